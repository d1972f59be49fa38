import Derived.Test.YtfejmalmnjmanaaGreatDoorS08
import Derived.Test.YtfejmalmnjmanaaGreatDoorS07
import Derived.Test.YtfejmalmnjmanaaGreatDoorS10
set_option linter.unusedVariables false
set_option linter.unusedSimpArgs false
set_option maxRecDepth 20000
set_option maxHeartbeats 8000000
namespace Go.Proofs.YtfejmalmnjmanaaGreatDoor
open Go.RowKit
structure NX where
 t:Nat
 a:Option Addr
 c:Nat
 b:Option Addr
 d:Nat
 x:SD
def NX.cells (y:NX):List Value:=[.int .i64 (y.t:Int),.bool true,.slice y.a y.x.ts.length y.c,.slice y.b y.x.gs.length y.d]
theorem NX.len (y:NX):y.cells.length=4:=rfl
structure NX.lie (w:World) (y:NX):Prop where
 h1:SlA w 1 intC y.a y.x.ts
 h2:SlA w 3 GD.cells y.b y.x.gs
theorem NX.lie.later {w w':World}{y:NX} (h:y.lie w) (hb:Below w.heap.size w w'):y.lie w':=⟨h.h1.later hb,h.h2.later hb⟩
theorem nx_app {w:World}{B:Nat}{sv:Value}{xs:List NX} (h:ORow w B 91 4 NX.cells sv xs) (y:NX) (hl:xs.length≤1000) (hB:B≤w.heap.size) :
  ∃ g' cap' w2,(Builtin.append_ #[88,88] 88 #[sv,.slice (some ⟨w.heap.size,0,none⟩) 1 1]).run Tryz.prog (w.alloc (.cells #[.int .i64 (y.t:Int),.bool true,.slice y.a y.x.ts.length y.c,.slice y.b y.x.gs.length y.d] 91))=.ok (.slice (some ⟨g',0,none⟩) (xs.length+1) cap') w2∧Hid (ORow w2 B 91 4 NX.cells (.slice (some ⟨g',0,none⟩) (xs.length+1) cap') (xs++[y]))∧Hid (∀ w0,Below w0.heap.size w0 w→w0.heap.size≤B→Below w0.heap.size w0 w2)∧Hid (∀ (g:Nat) (arr:Array Value) (fr:Nat × Nat),w.heap[g]?=some (.cells arr 3 fr)→w2.heap[g]?=some (.cells arr 3 fr)):=by
 have hy:=bw1 w (.cells #[.int .i64 (y.t:Int),.bool true,.slice y.a y.x.ts.length y.c,.slice y.b y.x.gs.length y.d] 91)
 obtain ⟨g',cap',w2,hr,ho2,hg⟩:=(h.later hy).app 88 64 Tryz.underlying88 (by kernel_rfl) (by omega) (by omega) y w.heap.size 88 (qKz _ _) rfl (by intro u hu;simp[NX.cells] at hu;rcases hu with rfl|rfl|rfl|rfl <;> rfl) (by omega) (by simp;omega)
 refine ⟨g',cap',w2,hr,ho2,fun w0 hb hB0=>below_grown (hb.trans (hy.mono hb.size)) (by have:=hb.size;simp;omega) (h.later hy) hB0 hg,fun g arr fr hgc=>?_⟩
 have hlt:=blk_lt hgc
 rw[hg.block g (by simp;omega) (fun e=>?_)]
 ·exact qIz hgc _
 ·obtain ⟨h1,⟨rfl,h2⟩|⟨g0,c0,cur,rfl,e2,e3,e4⟩⟩:=h
  ·cases e
  ·cases e
   rw[hgc] at e3
   cases e3
theorem nx_apps {w:World}{B:Nat}{sv:Value}{xs:List NX} (h:ORow w B 91 4 NX.cells sv xs) (m:Nat) (hm:w.heap.size=m) (t:Nat) (z:Int) (hz:(t:Int)=z) (a:Option Addr) (n c:Nat) (b:Option Addr) (k d:Nat) (x:SD) (hn:x.ts.length=n) (hk:x.gs.length=k) (hl:xs.length≤1000) (hB:B≤w.heap.size) :
  ∃ g' cap' w2,(Builtin.append_ #[88,88] 88 #[sv,.slice (some ⟨m,0,none⟩) 1 1]).run Tryz.prog (w.alloc (.cells #[.int .i64 z,.bool true,.slice a n c,.slice b k d] 91))=.ok (.slice (some ⟨g',0,none⟩) (xs.length+1) cap') w2∧Hid (ORow w2 B 91 4 NX.cells (.slice (some ⟨g',0,none⟩) (xs.length+1) cap') (xs++[⟨t,a,c,b,d,x⟩]))∧Hid (∀ w0,Below w0.heap.size w0 w→w0.heap.size≤B→Below w0.heap.size w0 w2)∧Hid (∀ (g:Nat) (arr:Array Value) (fr:Nat × Nat),w.heap[g]?=some (.cells arr 3 fr)→w2.heap[g]?=some (.cells arr 3 fr)):=by
 subst hm hz hn hk
 exact nx_app h ⟨t,a,c,b,d,x⟩ hl hB
theorem w4_size (w:World) (o1 o2 o3 o4:Obj):((((w.alloc o1).alloc o2).alloc o3).alloc o4).heap.size=w.heap.size+1+1+1+1:=by simp
theorem w4_below (w:World) (o1 o2 o3 o4:Obj):Below w.heap.size w ((((w.alloc o1).alloc o2).alloc o3).alloc o4):=qJz (bw3 _ _ _ _) _
theorem w4_ins {w w2:World}{o1 o2 o4:Obj}{op na nb nc nd:Int}{t:TypeId} (hB:Below ((((w.alloc o1).alloc o2).alloc (.cells #[.int .i64 op,.int .i64 na,.int .i64 nb,.int .i64 nc,.int .i64 nd] t)).alloc o4).heap.size ((((w.alloc o1).alloc o2).alloc (.cells #[.int .i64 op,.int .i64 na,.int .i64 nb,.int .i64 nc,.int .i64 nd] t)).alloc o4) w2) :
  w2.cell? ⟨w.heap.size+1+1,0,none⟩=some (.int .i64 op)∧w2.cell? ⟨w.heap.size+1+1,1,none⟩=some (.int .i64 na)∧w2.cell? ⟨w.heap.size+1+1,2,none⟩=some (.int .i64 nb)∧w2.cell? ⟨w.heap.size+1+1,3,none⟩=some (.int .i64 nc):=by
 have h:=qBz hB (qIz (qNz (w:=(w.alloc o1).alloc o2) (k:=w.heap.size+1+1) (by simp) _) o4)
 exact ⟨by rw[qAz h];rfl,by rw[qAz h];rfl,by rw[qAz h];rfl,by rw[qAz h];rfl⟩
theorem w4_st {w w2:World}{o1 o3 o4:Obj}{v0 v1 v2:Value}{t:TypeId} (hB:Below ((((w.alloc o1).alloc (.cells #[v0,v1,v2] t)).alloc o3).alloc o4).heap.size ((((w.alloc o1).alloc (.cells #[v0,v1,v2] t)).alloc o3).alloc o4) w2) :
  w2.cell? ⟨w.heap.size+1,1,none⟩=some v1∧w2.cell? ⟨w.heap.size+1,2,none⟩=some v2:=by
 have h:=qBz hB (qIz (qIz (qNz (w:=w.alloc o1) (k:=w.heap.size+1) (by simp) _) o3) o4)
 exact ⟨by rw[qAz h];rfl,by rw[qAz h];rfl⟩
theorem w4_sb {w w2:World}{o1 o2 o3:Obj}{v0 v1 v2:Value}{t:TypeId} (hB:Below ((((w.alloc o1).alloc o2).alloc o3).alloc (.cells #[v0,v1,v2] t)).heap.size ((((w.alloc o1).alloc o2).alloc o3).alloc (.cells #[v0,v1,v2] t)) w2) :
  w2.cell? ⟨w.heap.size+1+1+1,0,none⟩=some v0∧w2.cell? ⟨w.heap.size+1+1+1,1,none⟩=some v1∧w2.cell? ⟨w.heap.size+1+1+1,2,none⟩=some v2:=by
 have h:=qBz hB (qNz (w:=((w.alloc o1).alloc o2).alloc o3) (k:=w.heap.size+1+1+1) (by simp) (.cells #[v0,v1,v2] t))
 exact ⟨by rw[qAz h];rfl,by rw[qAz h];rfl,by rw[qAz h];rfl⟩
set_option maxRecDepth 100000 in
theorem fol_29 (na nb nc nd:Int) (nI i b off ci:Nat) (name:ByteArray) (line params regs:Int) (rest:Bool) (au ac an:Option Addr) (lu cu lc cc ln cn:Nat) (w:World) (hi:i<nI) (hI:nI≤1048576) (hbw:b<w.heap.size)
  (d0:w.cell? ⟨b,off+i*5,none⟩=some (.int .i64 29)) (d1:w.cell? ⟨b,off+i*5+1,none⟩=some (.int .i64 na)) (d2:w.cell? ⟨b,off+i*5+2,none⟩=some (.int .i64 nb)) (d3:w.cell? ⟨b,off+i*5+3,none⟩=some (.int .i64 nc)) (d4:w.cell? ⟨b,off+i*5+4,none⟩=some (.int .i64 nd))
  (aq bq:Option Addr) (lq cq mq dq:Nat) (at' ag:Option Addr) (lt ct lg cg:Nat) (x:SD) (ht:x.ts.length=lt) (hg:x.gs.length=lg) :
  Calls Tryz.prog 41 #[.agg #[.string name,.int .i64 line,.int .i64 params,.bool rest,.int .i64 regs,.slice au lu cu,.slice ac lc cc,.slice (some ⟨b,off,none⟩) nI ci,.slice an ln cn],.int .i64 i,StV true aq lq cq bq mq dq,.slice at' lt ct,.slice ag lg cg] w fun e w'=>(∃ sv,e=.returned sv∧ORow w' w.heap.size 91 4 NX.cells sv [])∧Below w.heap.size w w':=by
 go_enter Tryz.func41,Tryz.ntmps41
 go_wp2_with fail
 go_ret
 exact ⟨⟨_,rfl,ORow.nil _ _ _ _ _⟩,w4_below _ _ _ _ _⟩
set_option maxRecDepth 100000 in
theorem fol_30 (na nb nc nd:Int) (nI i b off ci:Nat) (name:ByteArray) (line params regs:Int) (rest:Bool) (au ac an:Option Addr) (lu cu lc cc ln cn:Nat) (w:World) (hi:i<nI) (hI:nI≤1048576) (hbw:b<w.heap.size)
  (d0:w.cell? ⟨b,off+i*5,none⟩=some (.int .i64 30)) (d1:w.cell? ⟨b,off+i*5+1,none⟩=some (.int .i64 na)) (d2:w.cell? ⟨b,off+i*5+2,none⟩=some (.int .i64 nb)) (d3:w.cell? ⟨b,off+i*5+3,none⟩=some (.int .i64 nc)) (d4:w.cell? ⟨b,off+i*5+4,none⟩=some (.int .i64 nd))
  (aq bq:Option Addr) (lq cq mq dq:Nat) (at' ag:Option Addr) (lt ct lg cg:Nat) (x:SD) (ht:x.ts.length=lt) (hg:x.gs.length=lg) :
  Calls Tryz.prog 41 #[.agg #[.string name,.int .i64 line,.int .i64 params,.bool rest,.int .i64 regs,.slice au lu cu,.slice ac lc cc,.slice (some ⟨b,off,none⟩) nI ci,.slice an ln cn],.int .i64 i,StV true aq lq cq bq mq dq,.slice at' lt ct,.slice ag lg cg] w fun e w'=>(∃ sv,e=.returned sv∧ORow w' w.heap.size 91 4 NX.cells sv [])∧Below w.heap.size w w':=by
 go_enter Tryz.func41,Tryz.ntmps41
 go_wp2_with fail
 go_ret
 exact ⟨⟨_,rfl,ORow.nil _ _ _ _ _⟩,w4_below _ _ _ _ _⟩
set_option maxRecDepth 100000 in
theorem fol_o (op na nb nc nd:Int) (nI i b off ci:Nat) (name:ByteArray) (line params regs:Int) (rest:Bool) (au ac an:Option Addr) (lu cu lc cc ln cn:Nat) (w:World) (hi:i<nI) (hI:nI≤1048576) (hbw:b<w.heap.size)
  (d0:w.cell? ⟨b,off+i*5,none⟩=some (.int .i64 op)) (d1:w.cell? ⟨b,off+i*5+1,none⟩=some (.int .i64 na)) (d2:w.cell? ⟨b,off+i*5+2,none⟩=some (.int .i64 nb)) (d3:w.cell? ⟨b,off+i*5+3,none⟩=some (.int .i64 nc)) (d4:w.cell? ⟨b,off+i*5+4,none⟩=some (.int .i64 nd)) (f29:(op==29)=false) (f30:(op==30)=false) (f19:(op==19)=false) (f41:(op==41)=false) (f20:(op==20)=false) (f21:(op==21)=false) (f38:(op==38)=false) (f39:(op==39)=false) (f31:(op==31)=false) (v29:(op != 29)=true) (v30:(op != 30)=true) (v19:(op != 19)=true)
  (aq bq:Option Addr) (lq cq mq dq:Nat) (at' ag:Option Addr) (lt ct lg cg:Nat) (x:SD) (ht:x.ts.length=lt) (hg:x.gs.length=lg) :
  Calls Tryz.prog 41 #[.agg #[.string name,.int .i64 line,.int .i64 params,.bool rest,.int .i64 regs,.slice au lu cu,.slice ac lc cc,.slice (some ⟨b,off,none⟩) nI ci,.slice an ln cn],.int .i64 i,StV true aq lq cq bq mq dq,.slice at' lt ct,.slice ag lg cg] w fun e w'=>(∃ sv,e=.returned sv∧ORow w' w.heap.size 91 4 NX.cells sv [⟨i+1,at',ct,ag,cg,x⟩])∧Below w.heap.size w w':=by
 have HB0:Hid (Below w.heap.size w ((((w.alloc (.cells #[.string name,.int .i64 line,.int .i64 params,.bool rest,.int .i64 regs,.slice au lu cu,.slice ac lc cc,.slice (some ⟨b,off,none⟩) nI ci,.slice an ln cn] 75)).alloc (.cells #[.bool true,.slice aq lq cq,.slice bq mq dq] 58)).alloc (.cells #[.int .i64 op,.int .i64 na,.int .i64 nb,.int .i64 nc,.int .i64 nd] 77)).alloc (.cells #[.bool true,.slice at' lt ct,.slice ag lg cg] 58))):=w4_below _ _ _ _ _
 obtain ⟨g',cap',w2,hr,ho,hB,hK⟩:=nx_apps (w:=((((w.alloc (.cells #[.string name,.int .i64 line,.int .i64 params,.bool rest,.int .i64 regs,.slice au lu cu,.slice ac lc cc,.slice (some ⟨b,off,none⟩) nI ci,.slice an ln cn] 75)).alloc (.cells #[.bool true,.slice aq lq cq,.slice bq mq dq] 58)).alloc (.cells #[.int .i64 op,.int .i64 na,.int .i64 nb,.int .i64 nc,.int .i64 nd] 77)).alloc (.cells #[.bool true,.slice at' lt ct,.slice ag lg cg] 58))) (ORow.nil _ (w.heap.size+1+1+1+1) 91 4 NX.cells) (w.heap.size+1+1+1+1) (w4_size _ _ _ _ _) (i+1) ((i:Int)+1) (by omega) at' lt ct ag lg cg x ht hg (by simp) (by rw[w4_size];omega)
 have HB2:Hid (Below ((((w.alloc (.cells #[.string name,.int .i64 line,.int .i64 params,.bool rest,.int .i64 regs,.slice au lu cu,.slice ac lc cc,.slice (some ⟨b,off,none⟩) nI ci,.slice an ln cn] 75)).alloc (.cells #[.bool true,.slice aq lq cq,.slice bq mq dq] 58)).alloc (.cells #[.int .i64 op,.int .i64 na,.int .i64 nb,.int .i64 nc,.int .i64 nd] 77)).alloc (.cells #[.bool true,.slice at' lt ct,.slice ag lg cg] 58)).heap.size ((((w.alloc (.cells #[.string name,.int .i64 line,.int .i64 params,.bool rest,.int .i64 regs,.slice au lu cu,.slice ac lc cc,.slice (some ⟨b,off,none⟩) nI ci,.slice an ln cn] 75)).alloc (.cells #[.bool true,.slice aq lq cq,.slice bq mq dq] 58)).alloc (.cells #[.int .i64 op,.int .i64 na,.int .i64 nb,.int .i64 nc,.int .i64 nd] 77)).alloc (.cells #[.bool true,.slice at' lt ct,.slice ag lg cg] 58)) w2):=hB.out _ (Below.refl _ _) (by rw[w4_size];omega)
 obtain ⟨n0,n1,n2,n3⟩:=w4_ins HB2.out
 go_enter Tryz.func41,Tryz.ntmps41
 go_wp2_with (at_builtin;refine qEz rfl _ _ _ rfl _ _ _ _ rfl rfl hr ?_;clear hr)
 go_ret
 exact ⟨⟨_,rfl,ho.out.mono (by omega)⟩,hB.out _ HB0.out (by omega)⟩
set_option maxRecDepth 100000 in
theorem fol_19 (na nb nc nd:Int) (nI i b off ci:Nat) (name:ByteArray) (line params regs:Int) (rest:Bool) (au ac an:Option Addr) (lu cu lc cc ln cn:Nat) (w:World) (hi:i<nI) (hI:nI≤1048576) (hbw:b<w.heap.size)
  (d0:w.cell? ⟨b,off+i*5,none⟩=some (.int .i64 19)) (d1:w.cell? ⟨b,off+i*5+1,none⟩=some (.int .i64 na)) (d2:w.cell? ⟨b,off+i*5+2,none⟩=some (.int .i64 nb)) (d3:w.cell? ⟨b,off+i*5+3,none⟩=some (.int .i64 nc)) (d4:w.cell? ⟨b,off+i*5+4,none⟩=some (.int .i64 nd)) (t:Nat) (htt:na=(t:Int))
  (aq bq:Option Addr) (lq cq mq dq:Nat) (at' ag:Option Addr) (lt ct lg cg:Nat) (x:SD) (ht:x.ts.length=lt) (hg:x.gs.length=lg) :
  Calls Tryz.prog 41 #[.agg #[.string name,.int .i64 line,.int .i64 params,.bool rest,.int .i64 regs,.slice au lu cu,.slice ac lc cc,.slice (some ⟨b,off,none⟩) nI ci,.slice an ln cn],.int .i64 i,StV true aq lq cq bq mq dq,.slice at' lt ct,.slice ag lg cg] w fun e w'=>(∃ sv,e=.returned sv∧ORow w' w.heap.size 91 4 NX.cells sv [⟨t,at',ct,ag,cg,x⟩])∧Below w.heap.size w w':=by
 subst htt
 have HB0:Hid (Below w.heap.size w ((((w.alloc (.cells #[.string name,.int .i64 line,.int .i64 params,.bool rest,.int .i64 regs,.slice au lu cu,.slice ac lc cc,.slice (some ⟨b,off,none⟩) nI ci,.slice an ln cn] 75)).alloc (.cells #[.bool true,.slice aq lq cq,.slice bq mq dq] 58)).alloc (.cells #[.int .i64 19,.int .i64 (t:Int),.int .i64 nb,.int .i64 nc,.int .i64 nd] 77)).alloc (.cells #[.bool true,.slice at' lt ct,.slice ag lg cg] 58))):=w4_below _ _ _ _ _
 obtain ⟨g',cap',w2,hr,ho,hB,hK⟩:=nx_apps (w:=((((w.alloc (.cells #[.string name,.int .i64 line,.int .i64 params,.bool rest,.int .i64 regs,.slice au lu cu,.slice ac lc cc,.slice (some ⟨b,off,none⟩) nI ci,.slice an ln cn] 75)).alloc (.cells #[.bool true,.slice aq lq cq,.slice bq mq dq] 58)).alloc (.cells #[.int .i64 19,.int .i64 (t:Int),.int .i64 nb,.int .i64 nc,.int .i64 nd] 77)).alloc (.cells #[.bool true,.slice at' lt ct,.slice ag lg cg] 58))) (ORow.nil _ (w.heap.size+1+1+1+1) 91 4 NX.cells) (w.heap.size+1+1+1+1) (w4_size _ _ _ _ _) (t) ((t:Int)) (by omega) at' lt ct ag lg cg x ht hg (by simp) (by rw[w4_size];omega)
 have HB2:Hid (Below ((((w.alloc (.cells #[.string name,.int .i64 line,.int .i64 params,.bool rest,.int .i64 regs,.slice au lu cu,.slice ac lc cc,.slice (some ⟨b,off,none⟩) nI ci,.slice an ln cn] 75)).alloc (.cells #[.bool true,.slice aq lq cq,.slice bq mq dq] 58)).alloc (.cells #[.int .i64 19,.int .i64 (t:Int),.int .i64 nb,.int .i64 nc,.int .i64 nd] 77)).alloc (.cells #[.bool true,.slice at' lt ct,.slice ag lg cg] 58)).heap.size ((((w.alloc (.cells #[.string name,.int .i64 line,.int .i64 params,.bool rest,.int .i64 regs,.slice au lu cu,.slice ac lc cc,.slice (some ⟨b,off,none⟩) nI ci,.slice an ln cn] 75)).alloc (.cells #[.bool true,.slice aq lq cq,.slice bq mq dq] 58)).alloc (.cells #[.int .i64 19,.int .i64 (t:Int),.int .i64 nb,.int .i64 nc,.int .i64 nd] 77)).alloc (.cells #[.bool true,.slice at' lt ct,.slice ag lg cg] 58)) w2):=hB.out _ (Below.refl _ _) (by rw[w4_size];omega)
 obtain ⟨n0,n1,n2,n3⟩:=w4_ins HB2.out
 go_enter Tryz.func41,Tryz.ntmps41
 go_wp2_with (at_builtin;refine qEz rfl _ _ _ rfl _ _ _ _ rfl rfl hr ?_;clear hr)
 go_ret
 exact ⟨⟨_,rfl,ho.out.mono (by omega)⟩,hB.out _ HB0.out (by omega)⟩
set_option maxRecDepth 100000 in
theorem fol_20 (na nb nc nd:Int) (nI i b off ci:Nat) (name:ByteArray) (line params regs:Int) (rest:Bool) (au ac an:Option Addr) (lu cu lc cc ln cn:Nat) (w:World) (hi:i<nI) (hI:nI≤1048576) (hbw:b<w.heap.size)
  (d0:w.cell? ⟨b,off+i*5,none⟩=some (.int .i64 20)) (d1:w.cell? ⟨b,off+i*5+1,none⟩=some (.int .i64 na)) (d2:w.cell? ⟨b,off+i*5+2,none⟩=some (.int .i64 nb)) (d3:w.cell? ⟨b,off+i*5+3,none⟩=some (.int .i64 nc)) (d4:w.cell? ⟨b,off+i*5+4,none⟩=some (.int .i64 nd)) (t:Nat) (htt:nb=(t:Int))
  (aq bq:Option Addr) (lq cq mq dq:Nat) (at' ag:Option Addr) (lt ct lg cg:Nat) (x:SD) (ht:x.ts.length=lt) (hg:x.gs.length=lg) :
  Calls Tryz.prog 41 #[.agg #[.string name,.int .i64 line,.int .i64 params,.bool rest,.int .i64 regs,.slice au lu cu,.slice ac lc cc,.slice (some ⟨b,off,none⟩) nI ci,.slice an ln cn],.int .i64 i,StV true aq lq cq bq mq dq,.slice at' lt ct,.slice ag lg cg] w fun e w'=>(∃ sv,e=.returned sv∧ORow w' w.heap.size 91 4 NX.cells sv [⟨i+1,at',ct,ag,cg,x⟩,⟨t,at',ct,ag,cg,x⟩])∧Below w.heap.size w w':=by
 subst htt
 have HB0:Hid (Below w.heap.size w ((((w.alloc (.cells #[.string name,.int .i64 line,.int .i64 params,.bool rest,.int .i64 regs,.slice au lu cu,.slice ac lc cc,.slice (some ⟨b,off,none⟩) nI ci,.slice an ln cn] 75)).alloc (.cells #[.bool true,.slice aq lq cq,.slice bq mq dq] 58)).alloc (.cells #[.int .i64 20,.int .i64 na,.int .i64 (t:Int),.int .i64 nc,.int .i64 nd] 77)).alloc (.cells #[.bool true,.slice at' lt ct,.slice ag lg cg] 58))):=w4_below _ _ _ _ _
 obtain ⟨g',cap',w2,hr,ho,hB,hK⟩:=nx_apps (w:=((((w.alloc (.cells #[.string name,.int .i64 line,.int .i64 params,.bool rest,.int .i64 regs,.slice au lu cu,.slice ac lc cc,.slice (some ⟨b,off,none⟩) nI ci,.slice an ln cn] 75)).alloc (.cells #[.bool true,.slice aq lq cq,.slice bq mq dq] 58)).alloc (.cells #[.int .i64 20,.int .i64 na,.int .i64 (t:Int),.int .i64 nc,.int .i64 nd] 77)).alloc (.cells #[.bool true,.slice at' lt ct,.slice ag lg cg] 58))) (ORow.nil _ (w.heap.size+1+1+1+1) 91 4 NX.cells) (w.heap.size+1+1+1+1) (w4_size _ _ _ _ _) (i+1) ((i:Int)+1) (by omega) at' lt ct ag lg cg x ht hg (by simp) (by rw[w4_size];omega)
 have HB2:Hid (Below ((((w.alloc (.cells #[.string name,.int .i64 line,.int .i64 params,.bool rest,.int .i64 regs,.slice au lu cu,.slice ac lc cc,.slice (some ⟨b,off,none⟩) nI ci,.slice an ln cn] 75)).alloc (.cells #[.bool true,.slice aq lq cq,.slice bq mq dq] 58)).alloc (.cells #[.int .i64 20,.int .i64 na,.int .i64 (t:Int),.int .i64 nc,.int .i64 nd] 77)).alloc (.cells #[.bool true,.slice at' lt ct,.slice ag lg cg] 58)).heap.size ((((w.alloc (.cells #[.string name,.int .i64 line,.int .i64 params,.bool rest,.int .i64 regs,.slice au lu cu,.slice ac lc cc,.slice (some ⟨b,off,none⟩) nI ci,.slice an ln cn] 75)).alloc (.cells #[.bool true,.slice aq lq cq,.slice bq mq dq] 58)).alloc (.cells #[.int .i64 20,.int .i64 na,.int .i64 (t:Int),.int .i64 nc,.int .i64 nd] 77)).alloc (.cells #[.bool true,.slice at' lt ct,.slice ag lg cg] 58)) w2):=hB.out _ (Below.refl _ _) (by rw[w4_size];omega)
 have HB3:Hid (Below w.heap.size w w2):=hB.out _ HB0.out (by omega)
 obtain ⟨n0,n1,n2,n3⟩:=w4_ins HB2.out
 obtain ⟨s0,s1,s2⟩:=w4_sb HB2.out
 obtain ⟨g3,cap3,w3,hr3,ho3,hB4,hK4⟩:=nx_apps ho.out w2.heap.size rfl t (t:Int) rfl at' lt ct ag lg cg x ht hg (by simp) (by have:=HB2.out.size;rw[w4_size] at this;exact this)
 go_enter Tryz.func41,Tryz.ntmps41
 go_wp2_with (first|(at_builtin;refine qEz rfl _ _ _ rfl _ _ _ _ rfl rfl hr ?_;clear hr)|(at_builtin;refine qEz rfl _ _ _ rfl _ _ _ _ rfl rfl hr3 ?_;clear hr3))
 go_ret
 exact ⟨⟨_,rfl,ho3.out.mono (by omega)⟩,hB4.out _ HB3.out (by omega)⟩
set_option maxRecDepth 100000 in
theorem fol_21 (na nb nc nd:Int) (nI i b off ci:Nat) (name:ByteArray) (line params regs:Int) (rest:Bool) (au ac an:Option Addr) (lu cu lc cc ln cn:Nat) (w:World) (hi:i<nI) (hI:nI≤1048576) (hbw:b<w.heap.size)
  (d0:w.cell? ⟨b,off+i*5,none⟩=some (.int .i64 21)) (d1:w.cell? ⟨b,off+i*5+1,none⟩=some (.int .i64 na)) (d2:w.cell? ⟨b,off+i*5+2,none⟩=some (.int .i64 nb)) (d3:w.cell? ⟨b,off+i*5+3,none⟩=some (.int .i64 nc)) (d4:w.cell? ⟨b,off+i*5+4,none⟩=some (.int .i64 nd)) (t:Nat) (htt:nb=(t:Int))
  (aq bq:Option Addr) (lq cq mq dq:Nat) (at' ag:Option Addr) (lt ct lg cg:Nat) (x:SD) (ht:x.ts.length=lt) (hg:x.gs.length=lg) :
  Calls Tryz.prog 41 #[.agg #[.string name,.int .i64 line,.int .i64 params,.bool rest,.int .i64 regs,.slice au lu cu,.slice ac lc cc,.slice (some ⟨b,off,none⟩) nI ci,.slice an ln cn],.int .i64 i,StV true aq lq cq bq mq dq,.slice at' lt ct,.slice ag lg cg] w fun e w'=>(∃ sv,e=.returned sv∧ORow w' w.heap.size 91 4 NX.cells sv [⟨i+1,at',ct,ag,cg,x⟩,⟨t,at',ct,ag,cg,x⟩])∧Below w.heap.size w w':=by
 subst htt
 have HB0:Hid (Below w.heap.size w ((((w.alloc (.cells #[.string name,.int .i64 line,.int .i64 params,.bool rest,.int .i64 regs,.slice au lu cu,.slice ac lc cc,.slice (some ⟨b,off,none⟩) nI ci,.slice an ln cn] 75)).alloc (.cells #[.bool true,.slice aq lq cq,.slice bq mq dq] 58)).alloc (.cells #[.int .i64 21,.int .i64 na,.int .i64 (t:Int),.int .i64 nc,.int .i64 nd] 77)).alloc (.cells #[.bool true,.slice at' lt ct,.slice ag lg cg] 58))):=w4_below _ _ _ _ _
 obtain ⟨g',cap',w2,hr,ho,hB,hK⟩:=nx_apps (w:=((((w.alloc (.cells #[.string name,.int .i64 line,.int .i64 params,.bool rest,.int .i64 regs,.slice au lu cu,.slice ac lc cc,.slice (some ⟨b,off,none⟩) nI ci,.slice an ln cn] 75)).alloc (.cells #[.bool true,.slice aq lq cq,.slice bq mq dq] 58)).alloc (.cells #[.int .i64 21,.int .i64 na,.int .i64 (t:Int),.int .i64 nc,.int .i64 nd] 77)).alloc (.cells #[.bool true,.slice at' lt ct,.slice ag lg cg] 58))) (ORow.nil _ (w.heap.size+1+1+1+1) 91 4 NX.cells) (w.heap.size+1+1+1+1) (w4_size _ _ _ _ _) (i+1) ((i:Int)+1) (by omega) at' lt ct ag lg cg x ht hg (by simp) (by rw[w4_size];omega)
 have HB2:Hid (Below ((((w.alloc (.cells #[.string name,.int .i64 line,.int .i64 params,.bool rest,.int .i64 regs,.slice au lu cu,.slice ac lc cc,.slice (some ⟨b,off,none⟩) nI ci,.slice an ln cn] 75)).alloc (.cells #[.bool true,.slice aq lq cq,.slice bq mq dq] 58)).alloc (.cells #[.int .i64 21,.int .i64 na,.int .i64 (t:Int),.int .i64 nc,.int .i64 nd] 77)).alloc (.cells #[.bool true,.slice at' lt ct,.slice ag lg cg] 58)).heap.size ((((w.alloc (.cells #[.string name,.int .i64 line,.int .i64 params,.bool rest,.int .i64 regs,.slice au lu cu,.slice ac lc cc,.slice (some ⟨b,off,none⟩) nI ci,.slice an ln cn] 75)).alloc (.cells #[.bool true,.slice aq lq cq,.slice bq mq dq] 58)).alloc (.cells #[.int .i64 21,.int .i64 na,.int .i64 (t:Int),.int .i64 nc,.int .i64 nd] 77)).alloc (.cells #[.bool true,.slice at' lt ct,.slice ag lg cg] 58)) w2):=hB.out _ (Below.refl _ _) (by rw[w4_size];omega)
 have HB3:Hid (Below w.heap.size w w2):=hB.out _ HB0.out (by omega)
 obtain ⟨n0,n1,n2,n3⟩:=w4_ins HB2.out
 obtain ⟨s0,s1,s2⟩:=w4_sb HB2.out
 obtain ⟨g3,cap3,w3,hr3,ho3,hB4,hK4⟩:=nx_apps ho.out w2.heap.size rfl t (t:Int) rfl at' lt ct ag lg cg x ht hg (by simp) (by have:=HB2.out.size;rw[w4_size] at this;exact this)
 go_enter Tryz.func41,Tryz.ntmps41
 go_wp2_with (first|(at_builtin;refine qEz rfl _ _ _ rfl _ _ _ _ rfl rfl hr ?_;clear hr)|(at_builtin;refine qEz rfl _ _ _ rfl _ _ _ _ rfl rfl hr3 ?_;clear hr3))
 go_ret
 exact ⟨⟨_,rfl,ho3.out.mono (by omega)⟩,hB4.out _ HB3.out (by omega)⟩
set_option maxRecDepth 100000 in
theorem fol_38 (na nb nc nd:Int) (nI i b off ci:Nat) (name:ByteArray) (line params regs:Int) (rest:Bool) (au ac an:Option Addr) (lu cu lc cc ln cn:Nat) (w:World) (hi:i<nI) (hI:nI≤1048576) (hbw:b<w.heap.size)
  (d0:w.cell? ⟨b,off+i*5,none⟩=some (.int .i64 38)) (d1:w.cell? ⟨b,off+i*5+1,none⟩=some (.int .i64 na)) (d2:w.cell? ⟨b,off+i*5+2,none⟩=some (.int .i64 nb)) (d3:w.cell? ⟨b,off+i*5+3,none⟩=some (.int .i64 nc)) (d4:w.cell? ⟨b,off+i*5+4,none⟩=some (.int .i64 nd)) (t:Nat) (htt:nb=(t:Int))
  (aq bq:Option Addr) (lq cq mq dq:Nat) (at' ag:Option Addr) (lt ct lg cg:Nat) (x:SD) (ht:x.ts.length=lt) (hg:x.gs.length=lg) :
  Calls Tryz.prog 41 #[.agg #[.string name,.int .i64 line,.int .i64 params,.bool rest,.int .i64 regs,.slice au lu cu,.slice ac lc cc,.slice (some ⟨b,off,none⟩) nI ci,.slice an ln cn],.int .i64 i,StV true aq lq cq bq mq dq,.slice at' lt ct,.slice ag lg cg] w fun e w'=>(∃ sv,e=.returned sv∧ORow w' w.heap.size 91 4 NX.cells sv [⟨i+1,at',ct,ag,cg,x⟩,⟨t,at',ct,ag,cg,x⟩])∧Below w.heap.size w w':=by
 subst htt
 have HB0:Hid (Below w.heap.size w ((((w.alloc (.cells #[.string name,.int .i64 line,.int .i64 params,.bool rest,.int .i64 regs,.slice au lu cu,.slice ac lc cc,.slice (some ⟨b,off,none⟩) nI ci,.slice an ln cn] 75)).alloc (.cells #[.bool true,.slice aq lq cq,.slice bq mq dq] 58)).alloc (.cells #[.int .i64 38,.int .i64 na,.int .i64 (t:Int),.int .i64 nc,.int .i64 nd] 77)).alloc (.cells #[.bool true,.slice at' lt ct,.slice ag lg cg] 58))):=w4_below _ _ _ _ _
 obtain ⟨g',cap',w2,hr,ho,hB,hK⟩:=nx_apps (w:=((((w.alloc (.cells #[.string name,.int .i64 line,.int .i64 params,.bool rest,.int .i64 regs,.slice au lu cu,.slice ac lc cc,.slice (some ⟨b,off,none⟩) nI ci,.slice an ln cn] 75)).alloc (.cells #[.bool true,.slice aq lq cq,.slice bq mq dq] 58)).alloc (.cells #[.int .i64 38,.int .i64 na,.int .i64 (t:Int),.int .i64 nc,.int .i64 nd] 77)).alloc (.cells #[.bool true,.slice at' lt ct,.slice ag lg cg] 58))) (ORow.nil _ (w.heap.size+1+1+1+1) 91 4 NX.cells) (w.heap.size+1+1+1+1) (w4_size _ _ _ _ _) (i+1) ((i:Int)+1) (by omega) at' lt ct ag lg cg x ht hg (by simp) (by rw[w4_size];omega)
 have HB2:Hid (Below ((((w.alloc (.cells #[.string name,.int .i64 line,.int .i64 params,.bool rest,.int .i64 regs,.slice au lu cu,.slice ac lc cc,.slice (some ⟨b,off,none⟩) nI ci,.slice an ln cn] 75)).alloc (.cells #[.bool true,.slice aq lq cq,.slice bq mq dq] 58)).alloc (.cells #[.int .i64 38,.int .i64 na,.int .i64 (t:Int),.int .i64 nc,.int .i64 nd] 77)).alloc (.cells #[.bool true,.slice at' lt ct,.slice ag lg cg] 58)).heap.size ((((w.alloc (.cells #[.string name,.int .i64 line,.int .i64 params,.bool rest,.int .i64 regs,.slice au lu cu,.slice ac lc cc,.slice (some ⟨b,off,none⟩) nI ci,.slice an ln cn] 75)).alloc (.cells #[.bool true,.slice aq lq cq,.slice bq mq dq] 58)).alloc (.cells #[.int .i64 38,.int .i64 na,.int .i64 (t:Int),.int .i64 nc,.int .i64 nd] 77)).alloc (.cells #[.bool true,.slice at' lt ct,.slice ag lg cg] 58)) w2):=hB.out _ (Below.refl _ _) (by rw[w4_size];omega)
 have HB3:Hid (Below w.heap.size w w2):=hB.out _ HB0.out (by omega)
 obtain ⟨n0,n1,n2,n3⟩:=w4_ins HB2.out
 obtain ⟨s0,s1,s2⟩:=w4_sb HB2.out
 obtain ⟨g3,cap3,w3,hr3,ho3,hB4,hK4⟩:=nx_apps ho.out w2.heap.size rfl t (t:Int) rfl at' lt ct ag lg cg x ht hg (by simp) (by have:=HB2.out.size;rw[w4_size] at this;exact this)
 go_enter Tryz.func41,Tryz.ntmps41
 go_wp2_with (first|(at_builtin;refine qEz rfl _ _ _ rfl _ _ _ _ rfl rfl hr ?_;clear hr)|(at_builtin;refine qEz rfl _ _ _ rfl _ _ _ _ rfl rfl hr3 ?_;clear hr3))
 go_ret
 exact ⟨⟨_,rfl,ho3.out.mono (by omega)⟩,hB4.out _ HB3.out (by omega)⟩
set_option maxRecDepth 100000 in
theorem fol_39 (na nb nc nd:Int) (nI i b off ci:Nat) (name:ByteArray) (line params regs:Int) (rest:Bool) (au ac an:Option Addr) (lu cu lc cc ln cn:Nat) (w:World) (hi:i<nI) (hI:nI≤1048576) (hbw:b<w.heap.size)
  (d0:w.cell? ⟨b,off+i*5,none⟩=some (.int .i64 39)) (d1:w.cell? ⟨b,off+i*5+1,none⟩=some (.int .i64 na)) (d2:w.cell? ⟨b,off+i*5+2,none⟩=some (.int .i64 nb)) (d3:w.cell? ⟨b,off+i*5+3,none⟩=some (.int .i64 nc)) (d4:w.cell? ⟨b,off+i*5+4,none⟩=some (.int .i64 nd)) (t:Nat) (htt:nb=(t:Int))
  (aq bq:Option Addr) (lq cq mq dq:Nat) (at' ag:Option Addr) (lt ct lg cg:Nat) (x:SD) (ht:x.ts.length=lt) (hg:x.gs.length=lg) :
  Calls Tryz.prog 41 #[.agg #[.string name,.int .i64 line,.int .i64 params,.bool rest,.int .i64 regs,.slice au lu cu,.slice ac lc cc,.slice (some ⟨b,off,none⟩) nI ci,.slice an ln cn],.int .i64 i,StV true aq lq cq bq mq dq,.slice at' lt ct,.slice ag lg cg] w fun e w'=>(∃ sv,e=.returned sv∧ORow w' w.heap.size 91 4 NX.cells sv [⟨i+1,at',ct,ag,cg,x⟩,⟨t,at',ct,ag,cg,x⟩])∧Below w.heap.size w w':=by
 subst htt
 have HB0:Hid (Below w.heap.size w ((((w.alloc (.cells #[.string name,.int .i64 line,.int .i64 params,.bool rest,.int .i64 regs,.slice au lu cu,.slice ac lc cc,.slice (some ⟨b,off,none⟩) nI ci,.slice an ln cn] 75)).alloc (.cells #[.bool true,.slice aq lq cq,.slice bq mq dq] 58)).alloc (.cells #[.int .i64 39,.int .i64 na,.int .i64 (t:Int),.int .i64 nc,.int .i64 nd] 77)).alloc (.cells #[.bool true,.slice at' lt ct,.slice ag lg cg] 58))):=w4_below _ _ _ _ _
 obtain ⟨g',cap',w2,hr,ho,hB,hK⟩:=nx_apps (w:=((((w.alloc (.cells #[.string name,.int .i64 line,.int .i64 params,.bool rest,.int .i64 regs,.slice au lu cu,.slice ac lc cc,.slice (some ⟨b,off,none⟩) nI ci,.slice an ln cn] 75)).alloc (.cells #[.bool true,.slice aq lq cq,.slice bq mq dq] 58)).alloc (.cells #[.int .i64 39,.int .i64 na,.int .i64 (t:Int),.int .i64 nc,.int .i64 nd] 77)).alloc (.cells #[.bool true,.slice at' lt ct,.slice ag lg cg] 58))) (ORow.nil _ (w.heap.size+1+1+1+1) 91 4 NX.cells) (w.heap.size+1+1+1+1) (w4_size _ _ _ _ _) (i+1) ((i:Int)+1) (by omega) at' lt ct ag lg cg x ht hg (by simp) (by rw[w4_size];omega)
 have HB2:Hid (Below ((((w.alloc (.cells #[.string name,.int .i64 line,.int .i64 params,.bool rest,.int .i64 regs,.slice au lu cu,.slice ac lc cc,.slice (some ⟨b,off,none⟩) nI ci,.slice an ln cn] 75)).alloc (.cells #[.bool true,.slice aq lq cq,.slice bq mq dq] 58)).alloc (.cells #[.int .i64 39,.int .i64 na,.int .i64 (t:Int),.int .i64 nc,.int .i64 nd] 77)).alloc (.cells #[.bool true,.slice at' lt ct,.slice ag lg cg] 58)).heap.size ((((w.alloc (.cells #[.string name,.int .i64 line,.int .i64 params,.bool rest,.int .i64 regs,.slice au lu cu,.slice ac lc cc,.slice (some ⟨b,off,none⟩) nI ci,.slice an ln cn] 75)).alloc (.cells #[.bool true,.slice aq lq cq,.slice bq mq dq] 58)).alloc (.cells #[.int .i64 39,.int .i64 na,.int .i64 (t:Int),.int .i64 nc,.int .i64 nd] 77)).alloc (.cells #[.bool true,.slice at' lt ct,.slice ag lg cg] 58)) w2):=hB.out _ (Below.refl _ _) (by rw[w4_size];omega)
 have HB3:Hid (Below w.heap.size w w2):=hB.out _ HB0.out (by omega)
 obtain ⟨n0,n1,n2,n3⟩:=w4_ins HB2.out
 obtain ⟨s0,s1,s2⟩:=w4_sb HB2.out
 obtain ⟨g3,cap3,w3,hr3,ho3,hB4,hK4⟩:=nx_apps ho.out w2.heap.size rfl t (t:Int) rfl at' lt ct ag lg cg x ht hg (by simp) (by have:=HB2.out.size;rw[w4_size] at this;exact this)
 go_enter Tryz.func41,Tryz.ntmps41
 go_wp2_with (first|(at_builtin;refine qEz rfl _ _ _ rfl _ _ _ _ rfl rfl hr ?_;clear hr)|(at_builtin;refine qEz rfl _ _ _ rfl _ _ _ _ rfl rfl hr3 ?_;clear hr3))
 go_ret
 exact ⟨⟨_,rfl,ho3.out.mono (by omega)⟩,hB4.out _ HB3.out (by omega)⟩
end Go.Proofs.YtfejmalmnjmanaaGreatDoor
