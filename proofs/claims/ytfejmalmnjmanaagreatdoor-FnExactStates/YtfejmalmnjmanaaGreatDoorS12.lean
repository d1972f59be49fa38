import Derived.Test.YtfejmalmnjmanaaGreatDoorS11
import Derived.Test.YtfejmalmnjmanaaGreatDoorS10
set_option linter.unusedVariables false
set_option linter.unusedSimpArgs false
set_option maxRecDepth 20000
set_option maxHeartbeats 8000000
namespace Go.Proofs.YtfejmalmnjmanaaGreatDoor
open Go.RowKit
theorem flat_int (l:List Int):l.flatMap intC=l.map fun z=>Value.int .i64 z:=by
 induction l with
 | nil=>rfl
 | cons z l ih=>simp[intC,ih]
theorem ty_of_own {w:World}{B n:Nat}{sv:Value}{ts:List Int} (h:w.ownsRow B 3 1 sv n (ts.flatMap intC)) (hn:ts.length=n) (h0:0<n):∃ g cap,sv=.slice (some ⟨g,0,none⟩) n cap∧TyAt w g cap ts∧B≤g:=by
 rcases h.2 with ⟨rfl,h1⟩|⟨g,cap,cur,rfl,hbg,hg,hnc,hcm,hcs,htake⟩
 ·omega
 ·refine ⟨g,cap,rfl,⟨cur,hg,by omega,by omega,fun i hi=>?_⟩,hbg⟩
  have h2:(cur.toList.take (n*1))[i]?=(ts.flatMap intC)[i]?:=by rw[htake]
  rw[List.getElem?_take,if_pos (by omega),flat_int,List.getElem?_map,List.getElem?_eq_getElem hi] at h2
  rw[List.getD_eq_getElem?_getD,List.getElem?_eq_getElem hi]
  simpa using h2
theorem TyAt.sl {w:World}{g cap:Nat}{ts:List Int} (h:TyAt w g cap ts):SlA w 1 intC (some ⟨g,0,none⟩) ts:=by
 intro i x hx
 have hi:i<ts.length:=(List.getElem?_eq_some_iff.1 hx).1
 refine ⟨g,0,rfl,h.lt,fun j v hv=>?_⟩
 have hv':j=0∧v=.int .i64 x:=by cases j with|zero=>simp[intC] at hv;exact ⟨rfl,hv.symm⟩|succ j=>simp[intC] at hv
 obtain ⟨rfl,rfl⟩:=hv'
 have:=h.cell hi
 rw[List.getD_eq_getElem?_getD,hx] at this
 simpa using this
theorem out_but {w w':World}{B g cap:Nat}{ts:List Int}{sv:Value}{xs:List NX} (h:ORow w B 91 4 NX.cells sv xs) (ht:TyAt w g cap ts) (hb:But g w w'):ORow w' B 91 4 NX.cells sv xs :=
 h.keep fun j arr _ hj=>hb.block j (blk_lt hj) fun e=>by
  obtain ⟨cur,hc,_⟩:=ht
  subst e
  rw[hc] at hj
  cases hj
theorem But.drew {g:Nat}{w w':World} (h:But g w w'):But g w w'.drew:=⟨h.os,h.tape,h.output,h.size,h.block⟩
theorem TyAt.drew {w:World}{g cap:Nat}{ts:List Int} (h:TyAt w g cap ts):TyAt w.drew g cap ts:=h
theorem but_cell {w w':World}{g k i:Nat}{v:Value} (hb:But g w w') (hk:k<w.heap.size) (hg:k≠g) (h:w.cell? ⟨k,i,none⟩=some v):w'.cell? ⟨k,i,none⟩=some v:=by
 unfold World.cell? at h ⊢
 rw[hb.block k hk hg]
 exact h
set_option maxRecDepth 100000 in
theorem fol_41 (na nb nc nd:Int) (nI i b off ci:Nat) (name:ByteArray) (line params regs:Int) (rest:Bool) (au ac an:Option Addr) (lu cu lc cc ln cn:Nat) (w:World) (hi:i<nI) (hI:nI≤1048576) (hbw:b<w.heap.size)
  (d0:w.cell? ⟨b,off+i*5,none⟩=some (.int .i64 41)) (d1:w.cell? ⟨b,off+i*5+1,none⟩=some (.int .i64 na)) (d2:w.cell? ⟨b,off+i*5+2,none⟩=some (.int .i64 nb)) (d3:w.cell? ⟨b,off+i*5+3,none⟩=some (.int .i64 nc)) (d4:w.cell? ⟨b,off+i*5+4,none⟩=some (.int .i64 nd)) (t:Nat) (htt:nb=(t:Int)) (c:Nat) (hcc:nc=(c:Int))
  (aq bq:Option Addr) (lq cq mq dq:Nat) (at' ag:Option Addr) (lt ct lg cg:Nat) (x:SD) (ht:x.ts.length=lt) (hg:x.gs.length=lg) (z:Int) (ba oa:Nat) (haq:aq=some ⟨ba,oa,none⟩) (hbl:ba<w.heap.size) (hz:w.cell? ⟨ba,oa+c,none⟩=some (.int .i64 z)) (hcq:c<lq) (hct:c<lt) (hl:lt≤250) (hlq:lq≤250) (hs:SlA w 1 intC at' x.ts) :
  Calls Tryz.prog 41 #[.agg #[.string name,.int .i64 line,.int .i64 params,.bool rest,.int .i64 regs,.slice au lu cu,.slice ac lc cc,.slice (some ⟨b,off,none⟩) nI ci,.slice an ln cn],.int .i64 i,StV true aq lq cq bq mq dq,.slice at' lt ct,.slice ag lg cg] w fun e w'=>(∃ sv a3 c3,e=.returned sv∧SlA w' 1 intC a3 (x.ts.set c z)∧ORow w' w.heap.size 91 4 NX.cells sv [⟨i+1,at',ct,ag,cg,x⟩,⟨t,a3,c3,ag,cg,⟨x.ts.set c z,x.gs⟩⟩])∧Below w.heap.size w w':=by
 subst htt hcc haq
 have HS:Hid (SlA w 1 intC at' x.ts):=hs
 clear hs
 have HB0:Hid (Below w.heap.size w ((((w.alloc (.cells #[.string name,.int .i64 line,.int .i64 params,.bool rest,.int .i64 regs,.slice au lu cu,.slice ac lc cc,.slice (some ⟨b,off,none⟩) nI ci,.slice an ln cn] 75)).alloc (.cells #[.bool true,.slice (some ⟨ba,oa,none⟩) lq cq,.slice bq mq dq] 58)).alloc (.cells #[.int .i64 41,.int .i64 na,.int .i64 (t:Int),.int .i64 (c:Int),.int .i64 nd] 77)).alloc (.cells #[.bool true,.slice at' lt ct,.slice ag lg cg] 58))):=w4_below _ _ _ _ _
 obtain ⟨g',cap',w2,hr,ho,hB,hK⟩:=nx_apps (w:=((((w.alloc (.cells #[.string name,.int .i64 line,.int .i64 params,.bool rest,.int .i64 regs,.slice au lu cu,.slice ac lc cc,.slice (some ⟨b,off,none⟩) nI ci,.slice an ln cn] 75)).alloc (.cells #[.bool true,.slice (some ⟨ba,oa,none⟩) lq cq,.slice bq mq dq] 58)).alloc (.cells #[.int .i64 41,.int .i64 na,.int .i64 (t:Int),.int .i64 (c:Int),.int .i64 nd] 77)).alloc (.cells #[.bool true,.slice at' lt ct,.slice ag lg cg] 58))) (ORow.nil _ (w.heap.size+1+1+1+1) 91 4 NX.cells) (w.heap.size+1+1+1+1) (w4_size _ _ _ _ _) (i+1) ((i:Int)+1) (by omega) at' lt ct ag lg cg x ht hg (by simp) (by rw[w4_size];omega)
 have HB2:Hid (Below ((((w.alloc (.cells #[.string name,.int .i64 line,.int .i64 params,.bool rest,.int .i64 regs,.slice au lu cu,.slice ac lc cc,.slice (some ⟨b,off,none⟩) nI ci,.slice an ln cn] 75)).alloc (.cells #[.bool true,.slice (some ⟨ba,oa,none⟩) lq cq,.slice bq mq dq] 58)).alloc (.cells #[.int .i64 41,.int .i64 na,.int .i64 (t:Int),.int .i64 (c:Int),.int .i64 nd] 77)).alloc (.cells #[.bool true,.slice at' lt ct,.slice ag lg cg] 58)).heap.size ((((w.alloc (.cells #[.string name,.int .i64 line,.int .i64 params,.bool rest,.int .i64 regs,.slice au lu cu,.slice ac lc cc,.slice (some ⟨b,off,none⟩) nI ci,.slice an ln cn] 75)).alloc (.cells #[.bool true,.slice (some ⟨ba,oa,none⟩) lq cq,.slice bq mq dq] 58)).alloc (.cells #[.int .i64 41,.int .i64 na,.int .i64 (t:Int),.int .i64 (c:Int),.int .i64 nd] 77)).alloc (.cells #[.bool true,.slice at' lt ct,.slice ag lg cg] 58)) w2):=hB.out _ (Below.refl _ _) (by rw[w4_size];omega)
 have HB3:Hid (Below w.heap.size w w2):=hB.out _ HB0.out (by omega)
 obtain ⟨n0,n1,n2,n3⟩:=w4_ins HB2.out
 obtain ⟨s0,s1,s2⟩:=w4_sb HB2.out
 have hsz:w.heap.size+1+1+1+1≤w2.heap.size:=by have:=HB2.out.size;rw[w4_size] at this;exact this
 go_enter Tryz.func41,Tryz.ntmps41
 go_wp2_with (first
  | (at_builtin;refine qEz rfl _ _ _ rfl _ _ _ _ rfl rfl hr ?_;clear hr)
  | (go_at_call 36;refine (copy_any at' lt ct x.ts _ ht (HS.out.later HB3.out) (by omega)).mono ?_;rintro e w3 ⟨⟨sv3,rfl,ho3⟩,hb3⟩
     obtain ⟨g3,cap3,rfl,hty,hg3⟩:=ty_of_own ho3 ht (by omega)
     have HTY:Hid (TyAt w3 g3 cap3 x.ts):=hty
     have HB5:Hid (Below w2.heap.size w2 w3):=hb3
     obtain ⟨m0,m1,m2,m3⟩:=w4_ins (HB2.out.trans (hb3.mono HB2.out.size))
     obtain ⟨q1,q2⟩:=w4_st (HB2.out.trans (hb3.mono HB2.out.size))
     have hz3:=cell_later (HB3.out.trans (hb3.mono HB3.out.size)) hz
     have hcell:=hty.cell (i:=c) (by omega)
     have hfz:=hty.froz c
     have hg3lt:=hty.lt
     clear ho3 hty hb3))
 go_region
 obtain ⟨w4,hw4⟩:∃ w4,w4=(w3.setCell ⟨g3,c,none⟩ (.int .i64 z)).drew:=⟨_,rfl⟩
 rw[←hw4]
 have HBT:Hid (But g3 w3 w4):=by rw[hw4];exact ((But.of_below (Below.refl _ _)).set c _).drew
 have HT4:Hid (TyAt w4 g3 cap3 (x.ts.set c z)):=by rw[hw4];exact (HTY.out.set c z).drew
 clear hw4
 have k0:=but_cell HBT.out (by omega) (by omega) m0
 have k2:=but_cell HBT.out (by omega) (by omega) m2
 have hsz4:w2.heap.size≤w4.heap.size:=Nat.le_trans HB5.out.size HBT.out.size
 have HBE:Hid (Below w.heap.size w w4):=But.below (HB3.out.trans (HB5.out.mono HB3.out.size)) HBT.out (by omega) (by have:=HB3.out.size;have:=HB5.out.size;omega)
 obtain ⟨g5,cap5,w5,hr5,ho5,hB6,hK6⟩:=nx_apps (out_but (ho.out.later HB5.out) HTY.out HBT.out) w4.heap.size rfl t (t:Int) rfl (some ⟨g3,0,none⟩) lt cap3 ag lg cg ⟨x.ts.set c z,x.gs⟩ (by simpa using ht) hg (by simp) (by omega)
 have HB7:Hid (Below w.heap.size w w5):=hB6.out _ HBE.out (by omega)
 go_wp2_with (at_builtin;refine qEz rfl _ _ _ rfl _ _ _ _ rfl rfl hr5 ?_;clear hr5)
 go_ret
 refine ⟨⟨_,some ⟨g3,0,none⟩,cap3,rfl,?_,ho5.out.mono (by omega)⟩,HB7.out⟩
 obtain ⟨cur,hcur,hrest⟩:=HT4.out
 exact TyAt.sl ⟨cur,hK6.out g3 cur _ hcur,hrest⟩
def zF (ts:List Int) (b m:Nat):List Int:=ts.take b++(List.replicate (m-b) 0++ts.drop m)
theorem zF_start (ts:List Int) (b:Nat):zF ts b b=ts:=by simp[zF]
theorem zF_len (ts:List Int) (b m:Nat) (h1:b≤m) (h2:m≤ts.length):(zF ts b m).length=ts.length:=by simp[zF];omega
theorem zF_set (ts:List Int) (b m:Nat) (h1:b≤m) (h2:m<ts.length):(zF ts b m).set m 0=zF ts b (m+1):=by
 unfold zF
 rw[List.set_append_right _ _ (by simp;omega),List.set_append_right _ _ (by simp;omega),List.drop_eq_getElem_cons h2]
 have e1:m-(ts.take b).length-(List.replicate (m-b) (0:Int)).length=0:=by simp;omega
 rw[e1,List.set_cons_zero,show m+1-b=(m-b)+1 by omega,List.replicate_succ',List.append_assoc]
 rfl
theorem zF_caught (ts:List Int) (b:Nat) (h:b+2≤ts.length):((zF ts b ts.length).set b 1).set (b+1) 1=(ts.take b++[1,1])++List.replicate (ts.length-b-2) 0:=by
 unfold zF
 obtain ⟨k,hk⟩:∃ k,ts.length-b=k+2:=⟨ts.length-b-2,by omega⟩
 have hl:(ts.take b).length=b:=by simp;omega
 rw[hk,List.drop_length,List.append_nil,List.set_append_right _ _ (by omega),List.set_append_right _ _ (by omega),hl]
 rw[show b-b=0 by omega,show b+1-b=1 by omega]
 simp[List.replicate_succ]
set_option maxRecDepth 100000 in
theorem fol_31 (na nb nc nd:Int) (nI i b off ci:Nat) (name:ByteArray) (line params regs:Int) (rest:Bool) (au ac an:Option Addr) (lu cu lc cc ln cn:Nat) (w:World) (hi:i<nI) (hI:nI≤1048576) (hbw:b<w.heap.size)
  (d0:w.cell? ⟨b,off+i*5,none⟩=some (.int .i64 31)) (d1:w.cell? ⟨b,off+i*5+1,none⟩=some (.int .i64 na)) (d2:w.cell? ⟨b,off+i*5+2,none⟩=some (.int .i64 nb)) (d3:w.cell? ⟨b,off+i*5+3,none⟩=some (.int .i64 nc)) (d4:w.cell? ⟨b,off+i*5+4,none⟩=some (.int .i64 nd)) (t:Nat) (htt:na=(t:Int)) (c:Nat) (hcc:nb=(c:Int))
  (aq bq:Option Addr) (lq cq mq dq:Nat) (at' ag:Option Addr) (lt ct lg cg:Nat) (x q:SD) (ht:x.ts.length=lt) (hg:x.gs.length=lg) (hq:q.ts.length=lq) (hm:q.gs.length=mq) (hcq:c+2≤lq) (hlq:lq≤250) (hs:SlA w 1 intC aq q.ts) :
  Calls Tryz.prog 41 #[.agg #[.string name,.int .i64 line,.int .i64 params,.bool rest,.int .i64 regs,.slice au lu cu,.slice ac lc cc,.slice (some ⟨b,off,none⟩) nI ci,.slice an ln cn],.int .i64 i,StV true aq lq cq bq mq dq,.slice at' lt ct,.slice ag lg cg] w fun e w'=>(∃ sv a3 c3,e=.returned sv∧SlA w' 1 intC a3 ((q.ts.take c++[1,1])++List.replicate (q.ts.length-c-2) 0)∧ORow w' w.heap.size 91 4 NX.cells sv [⟨i+1,at',ct,ag,cg,x⟩,⟨t,a3,c3,bq,dq,⟨(q.ts.take c++[1,1])++List.replicate (q.ts.length-c-2) 0,q.gs⟩⟩])∧Below w.heap.size w w':=by
 subst htt hcc
 have HS:Hid (SlA w 1 intC aq q.ts):=hs
 clear hs
 have HB0:Hid (Below w.heap.size w ((((w.alloc (.cells #[.string name,.int .i64 line,.int .i64 params,.bool rest,.int .i64 regs,.slice au lu cu,.slice ac lc cc,.slice (some ⟨b,off,none⟩) nI ci,.slice an ln cn] 75)).alloc (.cells #[.bool true,.slice aq lq cq,.slice bq mq dq] 58)).alloc (.cells #[.int .i64 31,.int .i64 (t:Int),.int .i64 (c:Int),.int .i64 nc,.int .i64 nd] 77)).alloc (.cells #[.bool true,.slice at' lt ct,.slice ag lg cg] 58))):=w4_below _ _ _ _ _
 obtain ⟨g',cap',w2,hr,ho,hB,hK⟩:=nx_apps (w:=((((w.alloc (.cells #[.string name,.int .i64 line,.int .i64 params,.bool rest,.int .i64 regs,.slice au lu cu,.slice ac lc cc,.slice (some ⟨b,off,none⟩) nI ci,.slice an ln cn] 75)).alloc (.cells #[.bool true,.slice aq lq cq,.slice bq mq dq] 58)).alloc (.cells #[.int .i64 31,.int .i64 (t:Int),.int .i64 (c:Int),.int .i64 nc,.int .i64 nd] 77)).alloc (.cells #[.bool true,.slice at' lt ct,.slice ag lg cg] 58))) (ORow.nil _ (w.heap.size+1+1+1+1) 91 4 NX.cells) (w.heap.size+1+1+1+1) (w4_size _ _ _ _ _) (i+1) ((i:Int)+1) (by omega) at' lt ct ag lg cg x ht hg (by simp) (by rw[w4_size];omega)
 have HB2:Hid (Below ((((w.alloc (.cells #[.string name,.int .i64 line,.int .i64 params,.bool rest,.int .i64 regs,.slice au lu cu,.slice ac lc cc,.slice (some ⟨b,off,none⟩) nI ci,.slice an ln cn] 75)).alloc (.cells #[.bool true,.slice aq lq cq,.slice bq mq dq] 58)).alloc (.cells #[.int .i64 31,.int .i64 (t:Int),.int .i64 (c:Int),.int .i64 nc,.int .i64 nd] 77)).alloc (.cells #[.bool true,.slice at' lt ct,.slice ag lg cg] 58)).heap.size ((((w.alloc (.cells #[.string name,.int .i64 line,.int .i64 params,.bool rest,.int .i64 regs,.slice au lu cu,.slice ac lc cc,.slice (some ⟨b,off,none⟩) nI ci,.slice an ln cn] 75)).alloc (.cells #[.bool true,.slice aq lq cq,.slice bq mq dq] 58)).alloc (.cells #[.int .i64 31,.int .i64 (t:Int),.int .i64 (c:Int),.int .i64 nc,.int .i64 nd] 77)).alloc (.cells #[.bool true,.slice at' lt ct,.slice ag lg cg] 58)) w2):=hB.out _ (Below.refl _ _) (by rw[w4_size];omega)
 have HB3:Hid (Below w.heap.size w w2):=hB.out _ HB0.out (by omega)
 obtain ⟨n0,n1,n2,n3⟩:=w4_ins HB2.out
 obtain ⟨p1,p2⟩:=w4_st HB2.out
 have hsz:w.heap.size+1+1+1+1≤w2.heap.size:=by have:=HB2.out.size;rw[w4_size] at this;exact this
 go_enter Tryz.func41,Tryz.ntmps41
 go_wp2_with (first
  | (at_builtin;refine qEz rfl _ _ _ rfl _ _ _ _ rfl rfl hr ?_;clear hr)
  | (go_at_call 36;refine (copy_any aq lq cq q.ts _ hq (HS.out.later HB3.out) (by omega)).mono ?_;rintro e w3 ⟨⟨sv3,rfl,ho3⟩,hb3⟩
     obtain ⟨g3,cap3,rfl,hty,hg3⟩:=ty_of_own ho3 hq (by omega)
     have HTY:Hid (TyAt w3 g3 cap3 q.ts):=hty
     have HB5:Hid (Below w2.heap.size w2 w3):=hb3
     obtain ⟨m0,m1,m2,m3⟩:=w4_ins (HB2.out.trans (hb3.mono HB2.out.size))
     obtain ⟨q1,q2⟩:=w4_st (HB2.out.trans (hb3.mono HB2.out.size))
     have hg3lt:=hty.lt
     clear ho3 hty hb3))
 go_loopw [16] (fun r wr=>∃ m:Nat,c≤m∧m≤lq∧r=.int .i64 m∧Hid (But g3 w3 wr)∧Hid (TyAt wr g3 cap3 (zF q.ts c m))) (fun r _=>lq-(intOf r).toNat)
 case atStart=>exact ⟨c,Nat.le_refl _,by omega,rfl,But.of_below (Below.refl _ _),by show TyAt _ _ _ _;rw[zF_start];exact HTY.out⟩
 case round =>
  obtain ⟨m,hm1,hm2,rfl,HBT,HZ⟩:=hrel
  have hzl:(zF q.ts c m).length=lq:=by rw[zF_len _ _ _ hm1 (by omega)];exact hq
  by_cases k1:m<lq
  ·have hcell:=HZ.out.cell (i:=m) (by omega)
   have hfz:=HZ.out.froz m
   have hlt:=HZ.out.lt
   have HZ2:Hid (TyAt (wr.setCell ⟨g3,m,none⟩ (.int .i64 0)) g3 cap3 (zF q.ts c (m+1))):=by show TyAt _ _ _ _;rw[←zF_set _ _ _ hm1 (by omega)];exact HZ.out.set m 0
   have HB6:Hid (But g3 w3 (wr.setCell ⟨g3,m,none⟩ (.int .i64 0))):=HBT.out.set m _
   clear HZ HBT
   go_wp2_with fail
   go_roundw
   case rel=>exact ⟨m+1,by omega,by omega,by go_num,HB6,HZ2⟩
   case measure=>simp[intOf];omega
  ·have hml:m=lq:=by omega
   subst hml
   have hc0:=HZ.out.cell (i:=c) (by omega)
   have hc1:=HZ.out.cell (i:=c+1) (by omega)
   have hf0:=HZ.out.froz c
   have hf1:=HZ.out.froz (c+1)
   have hlt:=HZ.out.lt
   have j1:=but_cell HBT.out (by have:=HB5.out.size;omega) (by omega) m1
   have j2:=but_cell HBT.out (by have:=HB5.out.size;omega) (by omega) m2
   have r2:=but_cell HBT.out (by have:=HB5.out.size;omega) (by omega) q2
   have HZ2:Hid (TyAt ((wr.setCell ⟨g3,c,none⟩ (.int .i64 1)).setCell ⟨g3,c+1,none⟩ (.int .i64 1)) g3 cap3 ((q.ts.take c++[1,1])++List.replicate (q.ts.length-c-2) 0)):=by
    show TyAt _ _ _ _
    rw[←zF_caught _ _ (by omega),hq]
    exact (HZ.out.set c 1).set (c+1) 1
   have HB6:Hid (But g3 w3 ((wr.setCell ⟨g3,c,none⟩ (.int .i64 1)).setCell ⟨g3,c+1,none⟩ (.int .i64 1))):=(HBT.out.set c _).set (c+1) _
   have hsz4:w2.heap.size≤wr.heap.size:=Nat.le_trans HB5.out.size HBT.out.size
   have HBE:Hid (Below w.heap.size w ((wr.setCell ⟨g3,c,none⟩ (.int .i64 1)).setCell ⟨g3,c+1,none⟩ (.int .i64 1))):=But.below (HB3.out.trans (HB5.out.mono HB3.out.size)) HB6.out (by omega) (by have:=HB3.out.size;have:=HB5.out.size;omega)
   obtain ⟨g5,cap5,w5,hr5,ho5,hB6,hK6⟩:=nx_apps (w:=(wr.setCell ⟨g3,c,none⟩ (.int .i64 1)).setCell ⟨g3,c+1,none⟩ (.int .i64 1)) (out_but (ho.out.later HB5.out) HTY.out HB6.out) wr.heap.size (by simp) t (t:Int) rfl (some ⟨g3,0,none⟩) m cap3 bq mq dq ⟨(q.ts.take c++[1,1])++List.replicate (q.ts.length-c-2) 0,q.gs⟩ (by simp;omega) hm (by simp) (by simp;omega)
   have HB7:Hid (Below w.heap.size w w5):=hB6.out _ HBE.out (by omega)
   clear HZ
   go_wp2_with (at_builtin;refine qEz rfl _ _ _ rfl _ _ _ _ rfl rfl hr5 ?_;clear hr5)
   go_ret
   refine ⟨⟨_,some ⟨g3,0,none⟩,cap3,rfl,?_,ho5.out.mono (by omega)⟩,HB7.out⟩
   obtain ⟨cur,hcur,hrest⟩:=HZ2.out
   exact TyAt.sl ⟨cur,hK6.out g3 cur _ hcur,hrest⟩
def FolP (n:ID) (i:Nat) (q x:SD) (B:Nat) (e:Ending) (w':World):Prop :=
 ∃ sv ys,e=.returned sv∧ORow w' B 91 4 NX.cells sv ys∧(ys.map fun y=>(y.t,y.x))=followV n i q x∧∀ y∈ys,y.lie w'
theorem followers_any (n:ID) (nI i bk off ci:Nat) (name:ByteArray) (line params regs:Int) (rest:Bool) (au ac an:Option Addr) (lu cu lc cc ln cn:Nat) (w:World) (q x:SD) (hn:InsOk q.ts.length nI n) (hi:i<nI) (hI:nI≤1048576) (hbw:bk<w.heap.size)
  (d0:w.cell? ⟨bk,off+i*5,none⟩=some (.int .i64 n.op)) (d1:w.cell? ⟨bk,off+i*5+1,none⟩=some (.int .i64 n.a)) (d2:w.cell? ⟨bk,off+i*5+2,none⟩=some (.int .i64 n.b)) (d3:w.cell? ⟨bk,off+i*5+3,none⟩=some (.int .i64 n.c)) (d4:w.cell? ⟨bk,off+i*5+4,none⟩=some (.int .i64 n.d))
  (aq bq at' ag:Option Addr) (cq dq ct cg:Nat) (hx:x.ts.length=q.ts.length) (hl:q.ts.length≤250) (s1:SlA w 1 intC aq q.ts) (s2:SlA w 3 GD.cells bq q.gs) (s3:SlA w 1 intC at' x.ts) (s4:SlA w 3 GD.cells ag x.gs)
  (h41:n.op=41→(⟨x.ts.set n.c.toNat (q.ts.getD n.c.toNat 0),x.gs⟩:SD)=q) :
  Calls Tryz.prog 41 #[.agg #[.string name,.int .i64 line,.int .i64 params,.bool rest,.int .i64 regs,.slice au lu cu,.slice ac lc cc,.slice (some ⟨bk,off,none⟩) nI ci,.slice an ln cn],.int .i64 i,StV true aq q.ts.length cq bq q.gs.length dq,.slice at' x.ts.length ct,.slice ag x.gs.length cg] w fun e w'=>FolP n i q x w.heap.size e w'∧Below w.heap.size w w':=by
 obtain ⟨op,na,nb,nc,nd⟩:=n
 have hta:=hn.ta
 have htb:=hn.tb
 have hk:=hn.k31
 have hwc:=hn.wc
 dsimp only at d0 d1 d2 d3 d4 hta htb hk hwc h41
 clear hn
 by_cases e29:op=29
 ·subst e29
  refine (fol_29 na nb nc nd nI i bk off ci name line params regs rest au ac an lu cu lc cc ln cn w hi hI hbw d0 d1 d2 d3 d4 aq bq q.ts.length cq q.gs.length dq at' ag x.ts.length ct x.gs.length cg x rfl rfl).mono ?_
  rintro e w' ⟨⟨sv,rfl,ho⟩,hb⟩
  exact ⟨⟨sv,[],rfl,ho,by simp[followV,goesV,endsB,targetV],fun y hy=>by cases hy⟩,hb⟩
 by_cases e30:op=30
 ·subst e30
  refine (fol_30 na nb nc nd nI i bk off ci name line params regs rest au ac an lu cu lc cc ln cn w hi hI hbw d0 d1 d2 d3 d4 aq bq q.ts.length cq q.gs.length dq at' ag x.ts.length ct x.gs.length cg x rfl rfl).mono ?_
  rintro e w' ⟨⟨sv,rfl,ho⟩,hb⟩
  exact ⟨⟨sv,[],rfl,ho,by simp[followV,goesV,endsB,targetV],fun y hy=>by cases hy⟩,hb⟩
 by_cases e19:op=19
 ·subst e19
  refine (fol_19 na nb nc nd nI i bk off ci name line params regs rest au ac an lu cu lc cc ln cn w hi hI hbw d0 d1 d2 d3 d4 na.toNat (by have:=hta (by simp);omega) aq bq q.ts.length cq q.gs.length dq at' ag x.ts.length ct x.gs.length cg x rfl rfl).mono ?_
  rintro e w' ⟨⟨sv,rfl,ho⟩,hb⟩
  exact ⟨⟨sv,_,rfl,ho,by simp[followV,goesV,endsB,targetV],fun y hy=>by simp at hy;subst hy;exact ⟨s3.later hb,s4.later hb⟩⟩,hb⟩
 by_cases e20:op=20
 ·subst e20
  refine (fol_20 na nb nc nd nI i bk off ci name line params regs rest au ac an lu cu lc cc ln cn w hi hI hbw d0 d1 d2 d3 d4 nb.toNat (by have:=htb (by simp);omega) aq bq q.ts.length cq q.gs.length dq at' ag x.ts.length ct x.gs.length cg x rfl rfl).mono ?_
  rintro e w' ⟨⟨sv,rfl,ho⟩,hb⟩
  exact ⟨⟨sv,_,rfl,ho,by simp[followV,goesV,endsB,targetV],fun y hy=>by simp at hy;rcases hy with rfl|rfl <;> exact ⟨s3.later hb,s4.later hb⟩⟩,hb⟩
 by_cases e21:op=21
 ·subst e21
  refine (fol_21 na nb nc nd nI i bk off ci name line params regs rest au ac an lu cu lc cc ln cn w hi hI hbw d0 d1 d2 d3 d4 nb.toNat (by have:=htb (by simp);omega) aq bq q.ts.length cq q.gs.length dq at' ag x.ts.length ct x.gs.length cg x rfl rfl).mono ?_
  rintro e w' ⟨⟨sv,rfl,ho⟩,hb⟩
  exact ⟨⟨sv,_,rfl,ho,by simp[followV,goesV,endsB,targetV],fun y hy=>by simp at hy;rcases hy with rfl|rfl <;> exact ⟨s3.later hb,s4.later hb⟩⟩,hb⟩
 by_cases e38:op=38
 ·subst e38
  refine (fol_38 na nb nc nd nI i bk off ci name line params regs rest au ac an lu cu lc cc ln cn w hi hI hbw d0 d1 d2 d3 d4 nb.toNat (by have:=htb (by simp);omega) aq bq q.ts.length cq q.gs.length dq at' ag x.ts.length ct x.gs.length cg x rfl rfl).mono ?_
  rintro e w' ⟨⟨sv,rfl,ho⟩,hb⟩
  exact ⟨⟨sv,_,rfl,ho,by simp[followV,goesV,endsB,targetV],fun y hy=>by simp at hy;rcases hy with rfl|rfl <;> exact ⟨s3.later hb,s4.later hb⟩⟩,hb⟩
 by_cases e39:op=39
 ·subst e39
  refine (fol_39 na nb nc nd nI i bk off ci name line params regs rest au ac an lu cu lc cc ln cn w hi hI hbw d0 d1 d2 d3 d4 nb.toNat (by have:=htb (by simp);omega) aq bq q.ts.length cq q.gs.length dq at' ag x.ts.length ct x.gs.length cg x rfl rfl).mono ?_
  rintro e w' ⟨⟨sv,rfl,ho⟩,hb⟩
  exact ⟨⟨sv,_,rfl,ho,by simp[followV,goesV,endsB,targetV],fun y hy=>by simp at hy;rcases hy with rfl|rfl <;> exact ⟨s3.later hb,s4.later hb⟩⟩,hb⟩
 by_cases e41:op=41
 ·subst e41
  have h1:=hwc rfl
  obtain ⟨ba,oa,haq,hbl,hcell⟩:=s1 nc.toNat (q.ts.getD nc.toNat 0) (by rw[List.getD_eq_getElem?_getD,List.getElem?_eq_getElem (by omega)];rfl)
  refine (fol_41 na nb nc nd nI i bk off ci name line params regs rest au ac an lu cu lc cc ln cn w hi hI hbw d0 d1 d2 d3 d4 nb.toNat (by have:=htb (by simp);omega) nc.toNat (by omega) aq bq q.ts.length cq q.gs.length dq at' ag x.ts.length ct x.gs.length cg x rfl rfl (q.ts.getD nc.toNat 0) ba oa haq hbl (by have:=hcell 0 _ rfl;simpa using this) (by omega) (by omega) (by omega) hl s3).mono ?_
  rintro e w' ⟨⟨sv,a3,c3,rfl,hs,ho⟩,hb⟩
  refine ⟨⟨sv,_,rfl,ho,?_,fun y hy=>?_⟩,hb⟩
  ·simp only[List.map_cons,List.map_nil]
   rw[h41 rfl]
   simp[followV,goesV,endsB,targetV]
  ·simp at hy
   rcases hy with rfl|rfl
   ·exact ⟨s3.later hb,s4.later hb⟩
   ·exact ⟨hs,s4.later hb⟩
 by_cases e31:op=31
 ·subst e31
  have h1:=hk rfl
  refine (fol_31 na nb nc nd nI i bk off ci name line params regs rest au ac an lu cu lc cc ln cn w hi hI hbw d0 d1 d2 d3 d4 na.toNat (by have:=hta (by simp);omega) nb.toNat (by omega) aq bq q.ts.length cq q.gs.length dq at' ag x.ts.length ct x.gs.length cg x q rfl rfl rfl rfl (by omega) hl s1).mono ?_
  rintro e w' ⟨⟨sv,a3,c3,rfl,hs,ho⟩,hb⟩
  refine ⟨⟨sv,_,rfl,ho,?_,fun y hy=>?_⟩,hb⟩
  ·simp[followV,goesV,endsB,targetV,caughtV]
  ·simp only[List.mem_cons,List.not_mem_nil,or_false] at hy
   rcases hy with rfl|rfl
   ·exact ⟨s3.later hb,s4.later hb⟩
   ·exact ⟨hs,s2.later hb⟩
 refine (fol_o op na nb nc nd nI i bk off ci name line params regs rest au ac an lu cu lc cc ln cn w hi hI hbw d0 d1 d2 d3 d4 (by simpa using e29) (by simpa using e30) (by simpa using e19) (by simpa using e41) (by simpa using e20) (by simpa using e21) (by simpa using e38) (by simpa using e39) (by simpa using e31) (by simpa using e29) (by simpa using e30) (by simpa using e19) aq bq q.ts.length cq q.gs.length dq at' ag x.ts.length ct x.gs.length cg x rfl rfl).mono ?_
 rintro e w' ⟨⟨sv,rfl,ho⟩,hb⟩
 exact ⟨⟨sv,_,rfl,ho,by simp[followV,goesV,endsB,targetV,e29,e30,e19,e41,e20,e21,e38,e39,e31],fun y hy=>by simp at hy;subst hy;exact ⟨s3.later hb,s4.later hb⟩⟩,hb⟩
def TyV (w:World) (tv:Value) (ts:List Int):Prop:=(ts=[]∧tv=.slice none 0 0)∨∃ g cap,tv=.slice (some ⟨g,0,none⟩) ts.length cap∧TyAt w g cap ts
structure ButV (tv:Value) (w w':World):Prop where
 os:w'.os=w.os
 tape:w'.tape=w.tape
 output:w'.output=w.output
 size:w.heap.size≤w'.heap.size
 block:∀ k,k<w.heap.size→tv.ownBlock≠some k→w'.heap[k]?=w.heap[k]?
theorem ButV.of_below {tv:Value}{w w':World} (h:Below w.heap.size w w'):ButV tv w w':=⟨h.os,h.tape,h.output,h.size,fun k hk _=>h.block k hk⟩
theorem ButV.of_but {g n cap:Nat}{w w':World} (h:But g w w'):ButV (.slice (some ⟨g,0,none⟩) n cap) w w':=⟨h.os,h.tape,h.output,h.size,fun k hk hg=>h.block k hk fun e=>hg (by rw[e];rfl)⟩
theorem ButV.below {tv:Value}{B:Nat}{w0 w w':World} (h0:Below B w0 w) (h:ButV tv w w') (hB:∀ g,tv.ownBlock=some g→B≤g) (hs:B≤w.heap.size):Below B w0 w' :=
 ⟨h.os.trans h0.os,h.tape.trans h0.tape,h.output.trans h0.output,Nat.le_trans h0.size h.size,fun k hk=>(h.block k (by omega) (fun e=>by have:=hB k e;omega)).trans (h0.block k hk)⟩
theorem TyV.of_own {w:World}{B n:Nat}{sv:Value}{ts:List Int} (h:w.ownsRow B 3 1 sv n (ts.flatMap intC)) (hn:ts.length=n):TyV w sv ts∧∀ g,sv.ownBlock=some g→B≤g:=by
 rcases h.2 with ⟨rfl,h1⟩|⟨g,cap,cur,rfl,hbg,hg,hnc,hcm,hcs,htake⟩
 ·exact ⟨.inl ⟨List.length_eq_zero_iff.1 (by omega),rfl⟩,fun g hg=>by cases hg⟩
 ·refine ⟨.inr ⟨g,cap,by rw[hn],⟨cur,hg,by omega,by omega,fun i hi=>?_⟩⟩,fun k hk=>by cases hk;exact hbg⟩
  have h2:(cur.toList.take (n*1))[i]?=(ts.flatMap intC)[i]?:=by rw[htake]
  rw[List.getElem?_take,if_pos (by omega),flat_int,List.getElem?_map,List.getElem?_eq_getElem hi] at h2
  rw[List.getD_eq_getElem?_getD,List.getElem?_eq_getElem hi]
  simpa using h2
theorem TyV.sl {w:World}{tv:Value}{ts:List Int} (h:TyV w tv ts):∃ a cap,tv=.slice a ts.length cap∧SlA w 1 intC a ts:=by
 rcases h with ⟨rfl,rfl⟩|⟨g,cap,rfl,h⟩
 ·exact ⟨none,0,rfl,SlA.nil _ _ _ _⟩
 ·exact ⟨_,_,rfl,h.sl⟩
theorem TyV.later {w w':World}{tv:Value}{ts:List Int} (h:TyV w tv ts) (hb:Below w.heap.size w w'):TyV w' tv ts:=by
 rcases h with h|⟨g,cap,rfl,h⟩
 ·exact .inl h
 ·exact .inr ⟨g,cap,rfl,h.later hb⟩
theorem read_v (xs:List FC) (w0:World) (n:ID) (nI:Nat) (ac:Option Addr) (lc cc:Nat) (p:Int) (tv:Value) (ts:List Int) (w:World) (ht:TyV w tv ts) (hn:InsOk ts.length nI n) (hl:ts.length≤250) (hc0:CodeAt w0 ac xs) (hlc:xs.length=lc) (hb0:Below w0.heap.size w0 w) (hg0:∀ g,tv.ownBlock=some g→w0.heap.size≤g) (hups:n.op=11→∃ (q:Nat) (f:FC),n.b=q∧xs[q]?=some f∧∀ u∈f.d.ups,u.l=true→0≤u.i∧u.i<ts.length) :
  Calls Tryz.prog 37 #[.agg #[.slice ac lc cc],.int .i64 p,IV n,tv] w fun e w'=>((readV (xs.map FC.d) n ts=none∧e=.returned (.tuple #[.slice none 0 0,.bool false])) ∨
   ∃ s a' c',readV (xs.map FC.d) n ts=some s∧e=.returned (.tuple #[.slice a' s.taken.length c',.bool true])∧TyV w' tv s.ts∧SlA w' 1 natC a' s.taken∧s.ts.length=ts.length∧s.taken.length≤8∧∀ b off,a'=some ⟨b,off,none⟩→w.heap.size≤b)∧ButV tv w w':=by
 rcases ht with ⟨rfl,rfl⟩|⟨g,cap,rfl,ht⟩
 ·refine (read_nil n nI hn ac lc cc p w).mono ?_
  rintro e w' ⟨rfl,hb⟩
  exact ⟨.inr ⟨⟨[],[],[]⟩,none,0,readV_nil _ hn,rfl,.inl ⟨rfl,rfl⟩,SlA.nil _ _ _ _,rfl,by simp,fun b off e=>by cases e⟩,ButV.of_below hb⟩
 ·refine (read_any xs w0 n ac lc cc p g cap ts w ht hn.op1 hn.op2 hl hn.reg hc0 hlc hb0 (hg0 g rfl) hups).mono ?_
  rintro e w' ⟨h|⟨s,a',c',h1,h2,h3,h4,h5,h6⟩,hb⟩
  ·exact ⟨.inl h,ButV.of_but hb⟩
  ·exact ⟨.inr ⟨s,a',c',h1,h2,.inr ⟨g,cap,by rw[h5],h3⟩,h4,h5,h6⟩,ButV.of_but hb⟩
theorem write_v (n:ID) (nI:Nat) (tv:Value) (ts:List Int) (w:World) (ht:TyV w tv ts) (hn:InsOk ts.length nI n) (hl:ts.length≤250) :
  Calls Tryz.prog 39 #[IV n,tv] w fun e w'=>e=.returned (.tuple #[])∧TyV w' tv (writeV n ts)∧ButV tv w w':=by
 rcases ht with ⟨rfl,rfl⟩|⟨g,cap,rfl,ht⟩
 ·refine (write_nil n nI hn w).mono ?_
  rintro e w' ⟨rfl,hb⟩
  exact ⟨rfl,by rw[writeV_nil];exact .inl ⟨rfl,rfl⟩,ButV.of_below hb⟩
 ·refine (write_any n g cap ts w ht hn.op1 hn.op2 hl hn.wa hn.wb hn.wc).mono ?_
  rintro e w' ⟨rfl,h1,hb⟩
  exact ⟨rfl,.inr ⟨g,cap,by rw[writeV_len],h1⟩,ButV.of_but hb⟩
end Go.Proofs.YtfejmalmnjmanaaGreatDoor
