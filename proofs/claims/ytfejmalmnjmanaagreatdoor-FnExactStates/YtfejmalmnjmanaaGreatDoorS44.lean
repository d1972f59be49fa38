import Derived.Deep.CutRange
import Derived.Test.YtfejmalmnjmanaaGreatDoorS24
set_option linter.unusedVariables false
set_option linter.unusedSimpArgs false
set_option maxRecDepth 20000
set_option maxHeartbeats 8000000
namespace Go.Proofs.YtfejmalmnjmanaaGreatDoor
open Go.RowKit
set_option maxRecDepth 100000 in
set_option maxHeartbeats 16000000 in
theorem walk_t (xs:List FC) (ac:Option Addr) (lc cc p:Nat) (f:FC) (nR nI nP:Nat) (E:Nat→List Nat) (w:World) (hc:CodeAt w ac xs) (hlc:xs.length=lc) (hp:xs[p]?=some f) (hf:PrOk xs f.d nR nI nP E) (hrest:f.d.rest=true) (k0:Nat) (R:Except (Nat × Nat) WkS) (hR:Runs (xs.map FC.d) f.d.ins k0 (startS f.d) R) :
  Calls Tryz.prog 19 #[.agg #[.slice ac lc cc],.int .i64 p] w fun e w'=>WkP p nI E R w.heap.size e w'∧Below w.heap.size w w':=by
 have hpl:p<lc:=by have:=(List.getElem?_eq_some_iff.1 hp).1;omega
 have hlen:lc≤1048576:=by have:=hc.len;omega
 obtain ⟨b,off,rfl,hb,hc9⟩:=hc.nine hp
 have HC:Hid (CodeAt w (some ⟨b,off,none⟩) xs):=hc
 have HLI:Hid (f.lie w):=hc.lie f (List.mem_of_getElem? hp)
 have HF:Hid (PrOk xs f.d nR nI nP E):=hf
 have HR:Hid (Runs (xs.map FC.d) f.d.ins k0 (startS f.d) R):=hR
 have HX:Hid (xs.length=lc):=hlc
 have h1:=hf.regs
 have h2:=hf.ins
 have h3:=hf.par
 have hR1:=hf.reg1
 have hI0:=hf.ins0
 have hI1:=hf.ins1
 obtain ⟨p0,p1,p2,p3,p4,p5,p6,p7,p8⟩:=hc9
 obtain ⟨d,au,cu,ad,cd,ai,ci,an,cn⟩:=f
 obtain ⟨name,line,params,rest,regs,ups,consts,ins,named⟩:=d
 dsimp only at h1 h2 h3 p0 p1 p2 p3 p4 p5 p6 p7 p8 hrest
 subst h1 h3 hrest
 obtain ⟨bi,oi,hai,hbi⟩:∃ bi oi,ai=some ⟨bi,oi,none⟩∧bi<w.heap.size:=by
  have hi0:0<ins.length:=by rw[h2];exact hI0
  obtain ⟨bi,oi,e,hl,_⟩:=HLI.out.i 0 _ (List.getElem?_eq_getElem (l:=ins) hi0)
  exact ⟨bi,oi,e,hl⟩
 subst hai
 rw[h2] at p7
 clear hc hp hf hR hlc h2
 have hmS:=fun W=>make_state nI (by omega) W
 have hmD:=fun W=>make_bool nI (by omega) W
 have hmI:=fun W=>make_int nR (by omega) W
 obtain ⟨B0,B1,B2,B3,B4,B5,BW⟩:=w6_at w (.cells #[.slice (some ⟨b,off,none⟩) lc cc] 31) (FO 0 0 0) (.cells #[.string name,.int .i64 line,.int .i64 (nP:Int),.bool true,.int .i64 (nR:Int),.slice au ups.length cu,.slice ad consts.length cd,.slice (some ⟨bi,oi,none⟩) nI ci,.slice an named.length cn] 75) (.cells ((List.replicate nI sr0).flatMap SR.cells).toArray 58) (.cells (mb (List.replicate nI false)) 4) (.cells (Array.replicate nR (Value.int .i64 0)) 3)
 obtain ⟨W6,hW6⟩:∃ W,((((((w.alloc (.cells #[.slice (some ⟨b,off,none⟩) lc cc] 31)).alloc (FO 0 0 0)).alloc (.cells #[.string name,.int .i64 line,.int .i64 (nP:Int),.bool true,.int .i64 (nR:Int),.slice au ups.length cu,.slice ad consts.length cd,.slice (some ⟨bi,oi,none⟩) nI ci,.slice an named.length cn] 75)).alloc (.cells ((List.replicate nI sr0).flatMap SR.cells).toArray 58)).alloc (.cells (mb (List.replicate nI false)) 4)).alloc (.cells (Array.replicate nR (Value.int .i64 0)) 3))=W:=⟨_,rfl⟩
 rw[hW6] at B0 B1 B2 B3 B4 B5 BW
 have HT6:Hid (TyAt W6 (w.heap.size+1+1+1+1+1) nR (List.replicate nR 0)):=ty_made nR (by rw[B5,List.toArray_replicate])
 have HB0:Hid _:=B0
 have HB1:Hid _:=B1
 have HB2:Hid _:=B2
 have HB3:Hid _:=B3
 have HB4:Hid _:=B4
 have HBW:Hid _:=BW
 clear B0 B1 B2 B3 B4 B5 BW
 go_enter Tryz.func19,Tryz.ntmps19
 go_wp2_with fail
 clear hmS hmD hmI p0 p1 p2 p3 p4 p5 p6 p7 p8
 go_loopw [10] (fun r wr=>∃ m:Nat,m≤nP∧r=.int .i64 m∧Hid (But (w.heap.size+1+1+1+1+1) W6 wr)∧Hid (TyAt wr (w.heap.size+1+1+1+1+1) nR (List.replicate m 1++List.replicate (nR-m) 0))) (fun r _=>nP-(intOf r).toNat)
 case atStart =>
  exact ⟨0,Nat.zero_le _,rfl,But.of_below (Below.refl _ _),by simpa using HT6⟩
 case round =>
  obtain ⟨m,hm,rfl,HBT,HT⟩:=hrel
  have hpR:nP+1≤nR:=HF.out.par1
  have hTl:(List.replicate m (1:Int)++List.replicate (nR-m) 0).length=nR:=by simp;omega
  have P2:Hid (wr.heap[w.heap.size+1+1]?=some (.cells #[.string name,.int .i64 line,.int .i64 (nP:Int),.bool true,.int .i64 (nR:Int),.slice au ups.length cu,.slice ad consts.length cd,.slice (some ⟨bi,oi,none⟩) nI ci,.slice an named.length cn] 75)):=(HBT.out.block _ (blk_lt HB2.out) (by omega)).trans HB2.out
  have j2:wr.cell? ⟨w.heap.size+1+1,2,none⟩=some (.int .i64 (nP:Int)):=by rw[qAz P2.out];rfl
  have j3:wr.cell? ⟨w.heap.size+1+1,3,none⟩=some (.bool true):=by rw[qAz P2.out];rfl
  by_cases k1:m<nP
  ·have hmR:m<nR:=by omega
   have hcell:=HT.out.cell (i:=m) (by omega)
   have hfz:=HT.out.froz m
   have hlt:=HT.out.lt
   have HT2:Hid (TyAt (wr.setCell ⟨w.heap.size+1+1+1+1+1,m,none⟩ (.int .i64 1)) (w.heap.size+1+1+1+1+1) nR (List.replicate (m+1) 1++List.replicate (nR-(m+1)) 0)):=by show TyAt _ _ _ _;rw[←ones_set m nR hmR];exact HT.out.set m 1
   have HB6:Hid (But (w.heap.size+1+1+1+1+1) W6 (wr.setCell ⟨w.heap.size+1+1+1+1+1,m,none⟩ (.int .i64 1))):=HBT.out.set m _
   clear HT HBT
   go_wp2_with fail
   go_roundw
   case rel=>exact ⟨m+1,by omega,by go_num,HB6,HT2⟩
   case measure=>simp[intOf];omega
  ·have hml:m=nP:=by omega
   subst hml
   have HB0':Hid _:=(HBT.out.block _ (blk_lt HB0.out) (by omega)).trans HB0.out
   have HB1':Hid _:=(HBT.out.block _ (blk_lt HB1.out) (by omega)).trans HB1.out
   have HB3':Hid _:=(HBT.out.block _ (blk_lt HB3.out) (by omega)).trans HB3.out
   have HB4':Hid _:=(HBT.out.block _ (blk_lt HB4.out) (by omega)).trans HB4.out
   have HBW':Hid (Below w.heap.size w wr):=But.below HBW.out HBT.out (by omega) HBW.out.size
   have hTs:Hid (TyAt (wr.setCell ⟨w.heap.size+1+1+1+1+1,m,none⟩ (.int .i64 3)) (w.heap.size+1+1+1+1+1) nR (startT m nR true)):=HT.out.set m 3
   have e5:=HT.out.cell (i:=m) (by omega)
   have z5:=HT.out.froz m
   obtain ⟨zs0,due0,hW0⟩:=wki_start (wr:=(wr.setCell ⟨w.heap.size+1+1+1+1+1,m,none⟩ (.int .i64 3))) HF.out (HBW'.out.setCell (by simp;omega) _) (qFz HB0'.out (by omega) _ _) (qFz HB1'.out (by omega) _ _) (qFz P2.out (by omega) _ _) (qFz HB3'.out (by omega) _ _) (qFz HB4'.out (by omega) _ _) hTs.out HR.out
   have HW0:Hid (WkI xs ins R nR nI w (.cells #[.slice (some ⟨b,off,none⟩) lc cc] 31) (.cells #[.string name,.int .i64 line,.int .i64 (m:Int),.bool true,.int .i64 (nR:Int),.slice au ups.length cu,.slice ad consts.length cd,.slice (some ⟨bi,oi,none⟩) nI ci,.slice an named.length cn] 75) (WZ w (wr.setCell ⟨w.heap.size+1+1+1+1+1,m,none⟩ (.int .i64 3)) nR) zs0 due0):=hW0
   have hS0:StA wr w.heap.size (w.heap.size+1+1+1) (List.replicate nI sr0):=⟨HB3'.out,fun z hz=>by rw[List.eq_of_mem_replicate hz];exact ⟨rfl,rfl⟩,fun i j y z _ h1 h2=>by
    rw[List.getElem?_replicate] at h1
    split at h1
    ·cases h1;exact ⟨Apart.nil _,Apart.nil _⟩
    ·cases h1⟩
   have hz0:(List.replicate nI sr0)[0]?=some sr0:=by rw[List.getElem?_replicate,if_pos hI0]
   have e0:=hS0.cell (j:=0) hz0 rfl
   have e1:=hS0.cell (j:=1) hz0 rfl
   have e2:=hS0.cell (j:=2) hz0 rfl
   have z0:=qGz HB3'.out 0
   have z1:=qGz HB3'.out 1
   have z2:=qGz HB3'.out 2
   have e4:wr.cell? ⟨w.heap.size+1+1+1+1,0,none⟩=some (.bool false):=by rw[qAz HB4'.out,mb_get _ 0 (by simpa using hI0)];simp[List.getD_eq_getElem?_getD,List.getElem?_replicate,hI0]
   have z4:=qGz HB4'.out 0
   simp only[Nat.zero_mul,Nat.zero_add] at e0 e1 e2
   clear hS0 hz0 hW0 HB0 HB1 HB2 HB3 HB4 HBW HB0' HB1' HB3' HB4' HBW' HT hTs P2 HT6 HBT hW6
   go_wp2_with fail
   clear e0 e1 e2 z0 z1 z2 e4 z4 e5 z5 j2 j3
   go_loopw [] (fun wo=>∃ zs due,Hid (WkI xs ins R nR nI w (.cells #[.slice (some ⟨b,off,none⟩) lc cc] 31) (.cells #[.string name,.int .i64 line,.int .i64 (m:Int),.bool true,.int .i64 (nR:Int),.slice au ups.length cu,.slice ad consts.length cd,.slice (some ⟨bi,oi,none⟩) nI ci,.slice an named.length cn] 75) wo zs due)) (fun wo=>2*cntB false wo (w.heap.size+1+1+1)+cntB true wo (w.heap.size+1+1+1+1))
   case atStart=>exact ⟨zs0,due0,HW0⟩
   case round =>
    clear HW0
    obtain ⟨zs,due,HI⟩:=hrel
    have hdl:due.length=nI:=HI.out.ok.l2
    have hzl:zs.length=nI:=by have:=HI.out.ok.l1;simpa using this
    have HMU:Hid _:=HI.out.mu
    go_wp2_with fail
    go_loopw [11] (fun r wi=>∃ q:Nat,q≤nI∧r=.int .i64 q∧wi=wr∧Hid (∀ b:Nat,b<q→due[b]?≠some true)) (fun r _=>nI-(intOf r).toNat)
    case atStart=>exact ⟨0,Nat.zero_le _,rfl,rfl,fun b hb=>by omega⟩
    case round =>
     obtain ⟨q,hq,rfl,hwr,HQ⟩:=hrel
     subst hwr
     by_cases k2:q<nI
     ·have f4:wr.cell? ⟨w.heap.size+1+1+1+1,q,none⟩=some (.bool (due.getD q false)):=by rw[qAz HI.out.dub,mb_get _ q (by omega)]
      have hdq:due[q]?=some (due.getD q false):=by rw[List.getD_eq_getElem?_getD,List.getElem?_eq_getElem (by omega)];rfl
      cases hdv:due.getD q false
      ·rw[hdv] at f4 hdq
       have HQ2:Hid (∀ b:Nat,b<q+1→due[b]?≠some true):=fun b hb=>by
        by_cases e:b=q
        ·subst e;rw[hdq];simp
        ·exact HQ.out b (by omega)
       go_wp2_with fail
       go_roundw
       case rel=>exact ⟨q+1,by omega,by go_num,by first|rfl|trivial,HQ2⟩
       case measure=>simp[intOf];omega
      ·rw[hdv] at f4 hdq
       have HLe:Hid (IsLeast due q):=⟨hdq,HQ.out⟩
       have t9:((q:Int)==(nI:Int))=false:=by simp;omega
       clear HQ hdv
       have hxq:=HI.out.ok.due q hdq
       obtain ⟨x,hxq⟩:=hxq
       obtain ⟨z,hz,hzo⟩:∃ z,zs[q]?=some z∧z.o=some x:=by
        rw[List.getElem?_map] at hxq
        obtain ⟨z,hz,hzo⟩:=Option.map_eq_some_iff.1 hxq
        exact ⟨z,hz,hzo⟩
       have hsok:=HI.out.ok.ok q x hxq
       have hxl:x.ts.length=nR:=hsok.1
       obtain ⟨lg,hlg⟩:∃ lg,x.gs.length=lg:=⟨_,rfl⟩
       have hlg50:lg≤50:=by have:=hsok.2.1;omega
       have HGK:Hid (∀ g∈x.gs,0≤g.k∧g.k≤nR):=hsok.2.2
       have hzk:=HI.out.st.ok z (List.mem_of_getElem? hz)
       unfold SR.ok at hzk
       rw[hzo] at hzk
       dsimp only at hzk
       obtain ⟨aT,cT,htv,hslT⟩:=hzk.1.lies intC_len
       obtain ⟨aG,cG,hgv,hslG⟩:=hzk.2.lies GD.len
       rw[hxl] at htv
       rw[hlg] at hgv
       have hqi:q<ins.length:=by have:=HF.out.ins;dsimp only at this;omega
       obtain ⟨n,hn⟩:∃ n,ins[q]?=some n:=⟨ins[q]'hqi,List.getElem?_eq_getElem hqi⟩
       have HNI:Hid (InsOk nR nI n):=HF.out.ok n (List.mem_of_getElem? hn)
       have HUP:Hid (n.op=11→∃ (q:Nat) (f:FC),n.b=q∧xs[q]?=some f∧∀ u∈f.d.ups,u.l=true→0≤u.i∧u.i<nR):=HF.out.ups n (List.mem_of_getElem? hn)
       obtain ⟨b2,o2,e2,_,hic⟩:=HLI.out.i q n hn
       simp only[Option.some.injEq,Addr.mk.injEq] at e2
       obtain ⟨rfl,rfl,-⟩:=e2
       have i0:wr.cell? ⟨bi,oi+q*5,none⟩=some (.int .i64 n.op):=cell_later HI.out.bel (hic 0 _ rfl)
       have i1:=cell_later HI.out.bel (hic 1 _ rfl)
       have i2:=cell_later HI.out.bel (hic 2 _ rfl)
       have i3:=cell_later HI.out.bel (hic 3 _ rfl)
       have i4:=cell_later HI.out.bel (hic 4 _ rfl)
       have q7:wr.cell? ⟨w.heap.size+1+1,7,none⟩=some (.slice (some ⟨bi,oi,none⟩) nI ci):=by rw[qAz HI.out.pro];rfl
       have ffz:=qGz HI.out.dub q
       have hne:¬ (bi=w.heap.size+1+1+1+1):=by omega
       have HSx:Hid (SlA wr 1 intC aT x.ts):=hslT
       have HSg:Hid (SlA wr 3 GD.cells aG x.gs):=hslG
       have hd4:=blk_lt HI.out.dub
       obtain ⟨wb,hwb⟩:∃ wb,(wr.setCell ⟨w.heap.size+1+1+1+1,q,none⟩ (.bool false)).alloc (.cells #[.int .i64 n.op,.int .i64 n.a,.int .i64 n.b,.int .i64 n.c,.int .i64 n.d] 77)=wb:=⟨_,rfl⟩
       have HBb:Hid (Below w.heap.size w wb):=by rw[←hwb];exact qJz (HI.out.bel.setCell (by simp;omega) _) _
       have HSb:Hid (StA wb w.heap.size (w.heap.size+1+1+1) zs):=by rw[←hwb];exact (HI.out.st.set_bool HI.out.dub q _).later (bw1 _ _)
       have HDb:Hid (wb.heap[w.heap.size+1+1+1+1]?=some (.cells (mb (due.set q false)) 4)):=by rw[←hwb];have h:=qLz HI.out.dub q (.bool false);rw[mb_set] at h;exact qIz h _
       have HNb:Hid (wb.heap[wr.heap.size]?=some (.cells #[.int .i64 n.op,.int .i64 n.a,.int .i64 n.b,.int .i64 n.c,.int .i64 n.d] 77)):=by rw[←hwb];exact qNz (by simp) _
       have H0b:Hid (wb.heap[w.heap.size]?=some (.cells #[.slice (some ⟨b,off,none⟩) lc cc] 31)):=by rw[←hwb];exact qIz (qFz HI.out.code (by omega) _ _) _
       have H1b:Hid (wb.heap[w.heap.size+1]?=some (FO 0 0 0)):=by rw[←hwb];exact qIz (qFz HI.out.flt (by omega) _ _) _
       have H2b:Hid (wb.heap[w.heap.size+1+1]?=some (.cells #[.string name,.int .i64 line,.int .i64 (m:Int),.bool true,.int .i64 (nR:Int),.slice au ups.length cu,.slice ad consts.length cd,.slice (some ⟨bi,oi,none⟩) nI ci,.slice an named.length cn] 75)):=by rw[←hwb];exact qIz (qFz HI.out.pro (by omega) _ _) _
       have HSxb:Hid (SlA wb 1 intC aT x.ts):=by obtain ⟨a3,c3,e3,h3⟩:=(show ORow wb w.heap.size 3 1 intC z.tv x.ts from by have h:=HSb.out.ok z (List.mem_of_getElem? hz);unfold SR.ok at h;rw[hzo] at h;exact h.1).lies intC_len;rw[htv] at e3;cases e3;exact h3
       have HSgb:Hid (SlA wb 3 GD.cells aG x.gs):=by obtain ⟨a3,c3,e3,h3⟩:=(show ORow wb w.heap.size 113 3 GD.cells z.gv x.gs from by have h:=HSb.out.ok z (List.mem_of_getElem? hz);unfold SR.ok at h;rw[hzo] at h;exact h.2).lies GD.len;rw[hgv] at e3;cases e3;exact h3
       have HCK:Hid (∀ wk,Below wb.heap.size wb wk→wk.cell? ⟨w.heap.size,0,none⟩=some (.slice (some ⟨b,off,none⟩) lc cc)∧wk.cell? ⟨wr.heap.size,0,none⟩=some (.int .i64 n.op)∧wk.cell? ⟨wr.heap.size,1,none⟩=some (.int .i64 n.a)∧wk.cell? ⟨wr.heap.size,2,none⟩=some (.int .i64 n.b)∧wk.cell? ⟨wr.heap.size,3,none⟩=some (.int .i64 n.c)∧wk.cell? ⟨wr.heap.size,4,none⟩=some (.int .i64 n.d)∧wk.cell? ⟨w.heap.size+1+1+1,q*3,none⟩=some (.bool true)∧wk.cell? ⟨w.heap.size+1+1+1,q*3+1,none⟩=some (.slice aT nR cT)∧wk.cell? ⟨w.heap.size+1+1+1,q*3+2,none⟩=some (.slice aG lg cG)):=by
        intro wk hk
        have hS:=HSb.out.later hk
        have hN:=qBz hk HNb.out
        refine ⟨by rw[qAz (qBz hk H0b.out)];rfl,by rw[qAz hN];rfl,by rw[qAz hN];rfl,by rw[qAz hN];rfl,by rw[qAz hN];rfl,by rw[qAz hN];rfl,?_,?_,?_⟩
        ·exact hS.cell (j:=0) hz (by simp[SR.cells,hzo])
        ·exact hS.cell (j:=1) hz (by simp[SR.cells,htv])
        ·exact hS.cell (j:=2) hz (by simp[SR.cells,hgv])
       obtain ⟨a0,m0,m1,m2,m3,m4,s0,s1,s2⟩:=HCK.out wb (Below.refl _ _)
       have hbsz:w.heap.size≤wb.heap.size:=HBb.out.size
       have HIN:Hid (ins[q]?=some n):=hn
       have HDG:Hid (ins.getD q id0=n):=by show _=_;rw[List.getD_eq_getElem?_getD,hn];rfl
       have HXQ:Hid ((zs.map SR.o).getD q none=some x):=by show _=_;rw[List.getD_eq_getElem?_getD,hxq];rfl
       have HXL:Hid (x.ts.length=nR):=hxl
       have HLG:Hid (x.gs.length=lg):=hlg
       clear hsok hzk hslT hslG htv hgv hic hn hqi hdq hxq hz hzo hlg hxl HSx HSg
       cases hrd:readV (xs.map FC.d) n x.ts with
       | none =>
        have HRR:Hid (R=.error (10,q)):=by
         show R=_
         obtain ⟨k,hk⟩:=HI.out.run
         refine (Runs.uniq hk (show Runs (xs.map FC.d) ins 0 ⟨zs.map SR.o,due⟩ (.error (10,q)) from .inr ⟨q,_,HLe.out,?_,rfl⟩)).1
         unfold passW
         dsimp only
         rw[HXQ.out,HDG.out]
         dsimp only
         unfold behindV
         rw[hrd]
        go_wp2_with (first
         | (go_at_call 36;refine (copy_any aT nR cT x.ts _ HXL.out HSxb.out (by omega)).mono ?_;rintro e w1 ⟨⟨sv1,rfl,ho1⟩,hb1⟩;clear hwb i0 i1 i2 i3 i4 q7 ffz f4 a0 m0 m1 m2 m3 m4 s0 s1 s2;obtain ⟨hty,hown⟩:=TyV.of_own ho1 HXL.out;obtain ⟨a0,m0,m1,m2,m3,m4,s0,s1,s2⟩:=HCK.out _ hb1;have HT1:Hid (TyV w1 sv1 x.ts):=hty;have HOW:Hid (∀ g,sv1.ownBlock=some g→wb.heap.size≤g):=hown;have HB1:Hid (Below wb.heap.size wb w1):=hb1;clear ho1 hty hown hb1)
         | (go_at_call 37;refine (read_no hrd HT1.out HXL.out HNI.out hR1 HC.out HX.out (HBb.out.trans (HB1.out.mono HBb.out.size)) (fun g hg=>Nat.le_trans hbsz (HOW.out g hg)) HUP.out).mono ?_;rintro e w2 ⟨rfl,hbv⟩;have HB2:Hid (Below wb.heap.size wb w2):=hbv.below HB1.out HOW.out HB1.out.size;clear hbv a0 m0 m1 m2 m3 m4 s0 s1 s2))
        refine (fault_b _ _ _ _).mono ?_
        rintro e w9 ⟨rfl,hx9⟩
        have B1':=qBz hx9 (qBz HB2.out H1b.out)
        have r0:w9.cell? ⟨w.heap.size+1,0,none⟩=some (.int .i64 0):=by rw[qAz B1'];rfl
        have r1:w9.cell? ⟨w.heap.size+1,1,none⟩=some (.int .i64 0):=by rw[qAz B1'];rfl
        have r2:w9.cell? ⟨w.heap.size+1,2,none⟩=some (.int .i64 0):=by rw[qAz B1'];rfl
        have z9:=qGz B1'
        have hz9:=(HBb.out.trans (HB2.out.mono HBb.out.size)).trans (hx9.mono (HBb.out.trans (HB2.out.mono HBb.out.size)).size)
        clear B1' hx9
        go_wp2_with fail
        refine bodyPost_ret (v:=.tuple #[.slice none 0 0,FV 10 (p:Int) (q:Int)]) (by simp[results,Tryz.results19,go_sem,r0,r1,r2]) rfl ⟨?_,?_⟩
        ·rw[HRR.out];rfl
        ·exact ((hz9.setCell (p:=⟨w.heap.size+1,0,none⟩) (by simp) _).setCell (p:=⟨w.heap.size+1,1,none⟩) (by simp) _).setCell (p:=⟨w.heap.size+1,2,none⟩) (by simp) _
       | some s =>
        have hrl:=readV_len hrd
        cases hch:changeV n x.gs with
        | none =>
         have HRR:Hid (R=.error (11,q)):=by
          show R=_
          obtain ⟨k,hk⟩:=HI.out.run
          refine (Runs.uniq hk (show Runs (xs.map FC.d) ins 0 ⟨zs.map SR.o,due⟩ (.error (11,q)) from .inr ⟨q,_,HLe.out,?_,rfl⟩)).1
          unfold passW
          dsimp only
          rw[HXQ.out,HDG.out]
          dsimp only
          unfold behindV
          rw[hrd]
          dsimp only
          rw[hch]
         go_wp2_with (first
          | (go_at_call 36;refine (copy_any aT nR cT x.ts _ HXL.out HSxb.out (by omega)).mono ?_;rintro e w1 ⟨⟨sv1,rfl,ho1⟩,hb1⟩;clear hwb i0 i1 i2 i3 i4 q7 ffz f4 a0 m0 m1 m2 m3 m4 s0 s1 s2;obtain ⟨hty,hown⟩:=TyV.of_own ho1 HXL.out;obtain ⟨a0,m0,m1,m2,m3,m4,s0,s1,s2⟩:=HCK.out _ hb1;have HT1:Hid (TyV w1 sv1 x.ts):=hty;have HOW:Hid (∀ g,sv1.ownBlock=some g→wb.heap.size≤g):=hown;have HB1:Hid (Below wb.heap.size wb w1):=hb1;clear ho1 hty hown hb1)
          | (go_at_call 37;refine (read_yes hrd HT1.out HXL.out HNI.out hR1 HC.out HX.out (HBb.out.trans (HB1.out.mono HBb.out.size)) (fun g hg=>Nat.le_trans hbsz (HOW.out g hg)) HUP.out).mono ?_;rintro e w2 ⟨⟨a4,c4,rfl,hsl4,hfr4⟩,hty2,hl8,hbv⟩;have HB2:Hid (Below wb.heap.size wb w2):=hbv.below HB1.out HOW.out HB1.out.size;have HZ12:Hid (w1.heap.size≤w2.heap.size):=hbv.size;clear hbv a0 m0 m1 m2 m3 m4 s0 s1 s2;obtain ⟨a0,m0,m1,m2,m3,m4,s0,s1,s2⟩:=HCK.out _ HB2.out;have HT2:Hid (TyV w2 sv1 s.ts):=hty2;have HS4:Hid (SlA w2 1 natC a4 s.taken):=hsl4;have HF4:Hid (∀ b off,a4=some ⟨b,off,none⟩→w1.heap.size≤b):=hfr4;clear hty2 hsl4 hfr4))
         go_cut [16,17] from 122 to 131 (fun s16 s17 wx=>s16=.bool false∧Hid (Below w2.heap.size w2 wx))
         case first =>
          go_region_with (go_at_call 38;refine (change_no hch HLG.out (HSgb.out.later HB2.out.drew) hlg50).mono ?_;rintro e w3 ⟨⟨sv3,rfl⟩,hb3⟩;replace hb3:=und1 hb3)
          all_goals
           go_wp2_with fail
           go_meet
           exact ⟨rfl,hb3⟩
         case rest =>
          obtain ⟨rfl,HB23⟩:=hcut
          have HB3:Hid (Below wb.heap.size wb wc):=HB2.out.trans (HB23.out.mono HB2.out.size)
          clear a0 m0 m1 m2 m3 m4 s0 s1 s2
          go_wp2_with fail
          refine (fault_b _ _ _ _).mono ?_
          rintro e w9 ⟨rfl,hx9⟩
          have B1':=qBz hx9 (qBz HB3.out H1b.out)
          have r0:w9.cell? ⟨w.heap.size+1,0,none⟩=some (.int .i64 0):=by rw[qAz B1'];rfl
          have r1:w9.cell? ⟨w.heap.size+1,1,none⟩=some (.int .i64 0):=by rw[qAz B1'];rfl
          have r2:w9.cell? ⟨w.heap.size+1,2,none⟩=some (.int .i64 0):=by rw[qAz B1'];rfl
          have z9:=qGz B1'
          have hz9:=(HBb.out.trans (HB3.out.mono HBb.out.size)).trans (hx9.mono (HBb.out.trans (HB3.out.mono HBb.out.size)).size)
          clear B1' hx9
          go_wp2_with fail
          refine bodyPost_ret (v:=.tuple #[.slice none 0 0,FV 11 (p:Int) (q:Int)]) (by simp[results,Tryz.results19,go_sem,r0,r1,r2]) rfl ⟨?_,?_⟩
          ·rw[HRR.out];rfl
          ·exact ((hz9.setCell (p:=⟨w.heap.size+1,0,none⟩) (by simp) _).setCell (p:=⟨w.heap.size+1,1,none⟩) (by simp) _).setCell (p:=⟨w.heap.size+1,2,none⟩) (by simp) _
        | some gs' =>
         have HNI2:Hid (InsOk s.ts.length nI n):=by show InsOk _ _ _;rw[hrl,HXL.out];exact HNI.out
         have hrl2:s.ts.length=nR:=by rw[hrl,HXL.out]
         go_wp2_with (first
          | (go_at_call 36;refine (copy_any aT nR cT x.ts _ HXL.out HSxb.out (by omega)).mono ?_;rintro e w1 ⟨⟨sv1,rfl,ho1⟩,hb1⟩;clear hwb i0 i1 i2 i3 i4 q7 ffz f4 a0 m0 m1 m2 m3 m4 s0 s1 s2;obtain ⟨hty,hown⟩:=TyV.of_own ho1 HXL.out;obtain ⟨a0,m0,m1,m2,m3,m4,s0,s1,s2⟩:=HCK.out _ hb1;have HT1:Hid (TyV w1 sv1 x.ts):=hty;have HOW:Hid (∀ g,sv1.ownBlock=some g→wb.heap.size≤g):=hown;have HB1:Hid (Below wb.heap.size wb w1):=hb1;clear ho1 hty hown hb1)
          | (go_at_call 37;refine (read_yes hrd HT1.out HXL.out HNI.out hR1 HC.out HX.out (HBb.out.trans (HB1.out.mono HBb.out.size)) (fun g hg=>Nat.le_trans hbsz (HOW.out g hg)) HUP.out).mono ?_;rintro e w2 ⟨⟨a4,c4,rfl,hsl4,hfr4⟩,hty2,hl8,hbv⟩;have HB2:Hid (Below wb.heap.size wb w2):=hbv.below HB1.out HOW.out HB1.out.size;have HZ12:Hid (w1.heap.size≤w2.heap.size):=hbv.size;clear hbv a0 m0 m1 m2 m3 m4 s0 s1 s2;obtain ⟨a0,m0,m1,m2,m3,m4,s0,s1,s2⟩:=HCK.out _ HB2.out;have HT2:Hid (TyV w2 sv1 s.ts):=hty2;have HS4:Hid (SlA w2 1 natC a4 s.taken):=hsl4;have HF4:Hid (∀ b off,a4=some ⟨b,off,none⟩→w1.heap.size≤b):=hfr4;clear hty2 hsl4 hfr4))
         go_cut [16,17] from 122 to 131 (fun s16 s17 wx=>s16=.bool true∧∃ a5 c5,s17=.slice a5 gs'.length c5∧Hid (SlA wx 3 GD.cells a5 gs')∧Hid (∀ b off,a5=some ⟨b,off,none⟩→w2.heap.size≤b)∧Hid (Below w2.heap.size w2 wx))
         case first =>
          go_region_with (go_at_call 38;refine (change_yes hch HLG.out (HSgb.out.later HB2.out.drew) hlg50).mono ?_;rintro e w3 ⟨⟨a5,c5,rfl,hs5,hf5⟩,hb3⟩;replace hb3:=und1 hb3)
          all_goals
           go_wp2_with fail
           go_meet
           exact ⟨rfl,a5,c5,rfl,hs5,hf5,hb3⟩
         case rest =>
          obtain ⟨rfl,a5,c5,rfl,HS5,HF5,HB23⟩:=hcut
          have HB3:Hid (Below wb.heap.size wb wc):=HB2.out.trans (HB23.out.mono HB2.out.size)
          clear a0 m0 m1 m2 m3 m4 s0 s1 s2
          obtain ⟨a0,m0,m1,m2,m3,m4,s0,s1,s2⟩:=HCK.out _ HB3.out
          have HT3:Hid (TyV wc sv1 s.ts):=HT2.out.later HB23.out
          have HS43:Hid (SlA wc 1 natC a4 s.taken):=HS4.out.later HB23.out
          have HOL:Hid (∀ g,sv1.ownBlock=some g→g<w1.heap.size):=HT1.out.lt
          go_wp2_with (go_at_call 39;refine (write_v n nI sv1 s.ts _ HT3.out HNI2.out (by omega)).mono ?_;rintro e w4 ⟨rfl,hty4,hbv⟩;have HB4:Hid (Below wb.heap.size wb w4):=hbv.below HB3.out HOW.out HB3.out.size;have HS44:Hid (SlA w4 1 natC a4 s.taken):=HS43.out.butv (fun b off e he=>by have h1:=HOL.out b he;have h2:=HF4.out b off e;omega) hbv;have HS54:Hid (SlA w4 3 GD.cells a5 gs'):=HS5.out.butv (fun b off e he=>by have h1:=HOL.out b he;have h2:=HF5.out b off e;have h3:=HZ12.out;omega) hbv;have HT4:Hid (TyV w4 sv1 (writeV n s.ts)):=hty4;clear a0 m0 m1 m2 m3 m4 s0 s1 s2 hbv hty4;obtain ⟨a0,m0,m1,m2,m3,m4,s0,s1,s2⟩:=HCK.out _ HB4.out)
          obtain ⟨aW,cW,hsv,HSW⟩:=HT4.out.sl
          have hwl:(writeV n s.ts).length=nR:=by rw[writeV_len];exact hrl2
          rw[hwl] at hsv
          subst hsv
          cases hkp:keptV x.gs s.taken x.ts (writeV n s.ts)
          ·have HRR:Hid (R=.error (12,q)):=by
            show R=_
            obtain ⟨k,hk⟩:=HI.out.run
            refine (Runs.uniq hk (show Runs (xs.map FC.d) ins 0 ⟨zs.map SR.o,due⟩ (.error (12,q)) from .inr ⟨q,_,HLe.out,?_,rfl⟩)).1
            unfold passW
            dsimp only
            rw[HXQ.out,HDG.out]
            dsimp only
            unfold behindV
            rw[hrd]
            dsimp only
            rw[hch]
            dsimp only
            rw[hkp]
            rfl
           go_cut [154] from 139 to 153 (fun s154 wx=>s154=.bool true∧Hid (Below w4.heap.size w4 wx))
           case first =>
            go_region_with (go_at_call 40;refine (kept_v false hkp HLG.out rfl HXL.out hwl (HSgb.out.later HB4.out.drew) (HS44.out.later (Below.refl _ _).drew) (HSxb.out.later HB4.out.drew) (HSW.later (Below.refl _ _).drew) hlg50 hl8 (by omega) HGK.out (fun e=>same32 e hrd)).mono ?_;rintro e w5 ⟨rfl,hb5⟩;replace hb5:=und1 hb5)
            all_goals
             go_wp2_with fail
             go_meet
             exact ⟨rfl,hb5⟩
           case rest =>
            obtain ⟨rfl,HB45⟩:=hcut
            have HB5:Hid (Below wb.heap.size wb wc):=HB4.out.trans (HB45.out.mono HB4.out.size)
            clear a0 m0 m1 m2 m3 m4 s0 s1 s2
            go_wp2_with fail
            refine (fault_b _ _ _ _).mono ?_
            rintro e w9 ⟨rfl,hx9⟩
            have B1':=qBz hx9 (qBz HB5.out H1b.out)
            have r0:w9.cell? ⟨w.heap.size+1,0,none⟩=some (.int .i64 0):=by rw[qAz B1'];rfl
            have r1:w9.cell? ⟨w.heap.size+1,1,none⟩=some (.int .i64 0):=by rw[qAz B1'];rfl
            have r2:w9.cell? ⟨w.heap.size+1,2,none⟩=some (.int .i64 0):=by rw[qAz B1'];rfl
            have z9:=qGz B1'
            have hz9:=(HBb.out.trans (HB5.out.mono HBb.out.size)).trans (hx9.mono (HBb.out.trans (HB5.out.mono HBb.out.size)).size)
            clear B1' hx9
            go_wp2_with fail
            refine bodyPost_ret (v:=.tuple #[.slice none 0 0,FV 12 (p:Int) (q:Int)]) (by simp[results,Tryz.results19,go_sem,r0,r1,r2]) rfl ⟨?_,?_⟩
            ·rw[HRR.out];rfl
            ·exact ((hz9.setCell (p:=⟨w.heap.size+1,0,none⟩) (by simp) _).setCell (p:=⟨w.heap.size+1,1,none⟩) (by simp) _).setCell (p:=⟨w.heap.size+1,2,none⟩) (by simp) _
          ·have HBV:Hid (behindV (xs.map FC.d) n x=.ok ⟨writeV n s.ts,gs'⟩):=by
            show behindV _ _ _=_
            unfold behindV
            rw[hrd]
            dsimp only
            rw[hch]
            dsimp only
            rw[hkp]
            rfl
           have H41:Hid (n.op=41→(⟨(writeV n s.ts).set n.c.toNat (x.ts.getD n.c.toNat 0),gs'⟩:SD)=x):=fun e=>same41 HNI.out HXL.out e hrd hch
           go_cut [154] from 139 to 153 (fun s154 wx=>s154=.bool false∧Hid (Below w4.heap.size w4 wx))
           case first =>
            go_region_with (go_at_call 40;refine (kept_v true hkp HLG.out rfl HXL.out hwl (HSgb.out.later HB4.out.drew) (HS44.out.later (Below.refl _ _).drew) (HSxb.out.later HB4.out.drew) (HSW.later (Below.refl _ _).drew) hlg50 hl8 (by omega) HGK.out (fun e=>same32 e hrd)).mono ?_;rintro e w5 ⟨rfl,hb5⟩;replace hb5:=und1 hb5)
            all_goals
             go_wp2_with fail
             go_meet
             exact ⟨rfl,hb5⟩
           case rest =>
            obtain ⟨rfl,HB45⟩:=hcut
            have HB5:Hid (Below wb.heap.size wb wc):=HB4.out.trans (HB45.out.mono HB4.out.size)
            clear a0 m0 m1 m2 m3 m4 s0 s1 s2
            obtain ⟨a0,m0,m1,m2,m3,m4,s0,s1,s2⟩:=HCK.out _ HB5.out
            clear a0 m0 m1 m2 m3 m4
            have HSW5:Hid (SlA wc 1 intC aW (writeV n s.ts)):=HSW.later HB45.out
            have HS55:Hid (SlA wc 3 GD.cells a5 gs'):=HS54.out.later HB45.out
            have HBwc:Hid (Below w.heap.size w wc):=HBb.out.trans (HB5.out.mono HBb.out.size)
            have q0:wc.cell? ⟨w.heap.size+1+1,0,none⟩=some (.string name):=by rw[qAz (qBz HB5.out H2b.out)];rfl
            have q1:wc.cell? ⟨w.heap.size+1+1,1,none⟩=some (.int .i64 line):=by rw[qAz (qBz HB5.out H2b.out)];rfl
            have q2:wc.cell? ⟨w.heap.size+1+1,2,none⟩=some (.int .i64 (m:Int)):=by rw[qAz (qBz HB5.out H2b.out)];rfl
            have q3:wc.cell? ⟨w.heap.size+1+1,3,none⟩=some (.bool true):=by rw[qAz (qBz HB5.out H2b.out)];rfl
            have q4:wc.cell? ⟨w.heap.size+1+1,4,none⟩=some (.int .i64 (nR:Int)):=by rw[qAz (qBz HB5.out H2b.out)];rfl
            have q5:wc.cell? ⟨w.heap.size+1+1,5,none⟩=some (.slice au ups.length cu):=by rw[qAz (qBz HB5.out H2b.out)];rfl
            have q6:wc.cell? ⟨w.heap.size+1+1,6,none⟩=some (.slice ad consts.length cd):=by rw[qAz (qBz HB5.out H2b.out)];rfl
            have q7:wc.cell? ⟨w.heap.size+1+1,7,none⟩=some (.slice (some ⟨bi,oi,none⟩) nI ci):=by rw[qAz (qBz HB5.out H2b.out)];rfl
            have q8:wc.cell? ⟨w.heap.size+1+1,8,none⟩=some (.slice an named.length cn):=by rw[qAz (qBz HB5.out H2b.out)];rfl
            clear HS44 HS54 HSW HT4 HT3 HS43 HOL HT2 HS4 HF4 HT1 HS5 HF5 HB23 HB3 HB1 HB2 HB45
            go_wp2_with fail
            go_cut [166,167,168] from 157 to 165 (fun s166 s167 s168 wx=>∃ ys aY cY,s166=.slice aY ys.length cY∧s167=.int .i64 (ys.length:Int)∧s168=.int .i64 0∧Hid (ORow wx wc.heap.size 91 4 NX.cells (.slice aY ys.length cY) ys)∧Hid ((ys.map fun y=>(y.t,y.x))=followV n q x ⟨writeV n s.ts,gs'⟩)∧Hid (∀ y∈ys,y.lie wx)∧Hid (Below wc.heap.size wc wx))
            case first =>
             go_region_with (go_at_call 41;refine (fol_v (q:=x) (x:=⟨writeV n s.ts,gs'⟩) HXL.out HLG.out hwl rfl HNI.out k2 hI1 ins HIN.out HLI.out.i HBwc.out.drew hR1 (HSxb.out.later HB5.out.drew) (HSgb.out.later HB5.out.drew) (HSW5.out.later (Below.refl _ _).drew) (HS55.out.later (Below.refl _ _).drew) H41.out).mono ?_;rintro e w6 ⟨⟨aY,cY,ys,rfl,ho6,hm6,hl6⟩,hb6⟩;replace hb6:=und1 hb6)
             all_goals
              go_wp2_with fail
              go_meet
              exact ⟨ys,aY,cY,rfl,rfl,rfl,ho6,hm6,hl6,hb6⟩
            case rest =>
             obtain ⟨ys,aY,cY,rfl,rfl,rfl,HOY,HMY,HLY,HBY⟩:=hcut
             have HBZ:Hid (Below wb.heap.size wb wc):=HB5.out.trans (HBY.out.mono HB5.out.size)
             obtain ⟨WX,hWX⟩:∃ WX,WX=wc:=⟨_,rfl⟩
             have HFO:Hid (FoI w (.cells #[.slice (some ⟨b,off,none⟩) lc cc] 31) (.cells #[.string name,.int .i64 line,.int .i64 (m:Int),.bool true,.int .i64 (nR:Int),.slice au ups.length cu,.slice ad consts.length cd,.slice (some ⟨bi,oi,none⟩) nI ci,.slice an named.length cn] 75) WX nR nI ys ⟨zs.map SR.o,due.set q false⟩ 0 wc zs (due.set q false)):=⟨HBb.out.trans (HBZ.out.mono HBb.out.size),qBz HBZ.out H0b.out,qBz HBZ.out H1b.out,qBz HBZ.out H2b.out,HSb.out.later HBZ.out,qBz HBZ.out HDb.out,HI.out.ok.off q,by rw[hWX];exact ButL.refl _ _,rfl⟩
             rw[←hWX] at HOY HLY
             have HNo:Hid (∀ g∈[w.heap.size+1+1+1,w.heap.size+1+1+1+1],NoInt WX g):=by
              intro g hg
              simp only[List.mem_cons,List.not_mem_nil,or_false] at hg
              rw[hWX]
              rcases hg with rfl|rfl
              ·exact HFO.out.st.noint
              ·exact noint_mb HFO.out.dub
             have HNt:Hid (∀ g∈[w.heap.size+1+1+1,w.heap.size+1+1+1+1],∀ arr,WX.heap[g]?≠some (.cells arr 91)):=by
              intro g hg arr ha
              simp only[List.mem_cons,List.not_mem_nil,or_false] at hg
              rw[hWX] at ha
              rcases hg with rfl|rfl
              ·rw[HFO.out.st.blk] at ha;cases ha
              ·rw[HFO.out.dub] at ha;cases ha
             have HYT:Hid (∀ y∈ys,y.t<nI∧SOk nR y.x):=by
              intro y hy
              have hm:(y.t,y.x)∈followV n q x ⟨writeV n s.ts,gs'⟩:=by rw[←HMY.out];exact List.mem_map.2 ⟨y,hy,rfl⟩
              have hxo:SOk nR x:=⟨HXL.out,by have:=HLG.out;omega,HGK.out⟩
              exact ⟨followV_lt HNI.out (HF.out.goes q n HIN.out) _ hm,followV_ok HNI.out hxo (behindV_ok HNI.out hxo HBV.out) _ hm⟩
             have hyl:ys.length≤2:=by
              have h:=congrArg List.length HMY.out
              rw[List.length_map] at h
              rw[h]
              exact followV_len _ _ _ _
             have HPS:Hid (∀ r,leadW (ys.map fun y=>(y.t,y.x)) ⟨zs.map SR.o,due.set q false⟩=r→passW (xs.map FC.d) ins q ⟨zs.map SR.o,due⟩=(match r with|.error t=>.error (13,t)|.ok s'=>.ok s')):=by
              intro r hr
              unfold passW
              dsimp only
              rw[HXQ.out,HDG.out]
              dsimp only
              rw[HBV.out]
              dsimp only
              rw[←HMY.out,hr]
              cases r <;> rfl
             clear q0 q1 q2 q3 q4 q5 q6 q7 q8 s0 s1 s2 HBY HBZ hWX HSW5 HS55 HB5 HBwc H41 HCK HSxb HSgb HSb HDb HNb H0b H1b H2b HBV hkp hch hrd
             go_wp2_with fail
             go_loopw [168] (fun r wi=>∃ (k:Nat) (zs2:List SR) (due2:List Bool),k≤ys.length∧r=.int .i64 k∧Hid (FoI w (.cells #[.slice (some ⟨b,off,none⟩) lc cc] 31) (.cells #[.string name,.int .i64 line,.int .i64 (m:Int),.bool true,.int .i64 (nR:Int),.slice au ups.length cu,.slice ad consts.length cd,.slice (some ⟨bi,oi,none⟩) nI ci,.slice an named.length cn] 75) WX nR nI ys ⟨zs.map SR.o,due.set q false⟩ k wi zs2 due2)) (fun r _=>ys.length-(intOf r).toNat)
             case atStart=>exact ⟨0,zs,due.set q false,Nat.zero_le _,rfl,HFO⟩
             case round =>
              clear HFO
              obtain ⟨k,zs2,due2,hk,rfl,HJ⟩:=hrel
              by_cases k3:k<ys.length
              ·obtain ⟨y,hy⟩:∃ y,ys[k]?=some y:=⟨ys[k]'k3,by simp⟩
               have hym:=List.mem_of_getElem? hy
               obtain ⟨hyt,hyx⟩:=HYT.out y hym
               obtain ⟨gY,capY,eY,_,_,hslY,_,hgYlt⟩:=(HOY.out.butl HJ.out.bl HNt.out).open NX.len (by omega)
               simp only[Value.slice.injEq] at eY
               obtain ⟨rfl,-,rfl⟩:=eY
               obtain ⟨b',off',e0,_,hcY⟩:=hslY k y hy
               cases e0
               have y0:wr.cell? ⟨gY,k*4,none⟩=some (.int .i64 (y.t:Int)):=by have:=hcY 0 _ rfl;simpa using this
               have y1:wr.cell? ⟨gY,k*4+1,none⟩=some (.bool true):=by have:=hcY 1 _ rfl;simpa using this
               have y2:wr.cell? ⟨gY,k*4+2,none⟩=some (.slice y.a y.x.ts.length y.c):=by have:=hcY 2 _ rfl;simpa using this
               have y3:wr.cell? ⟨gY,k*4+3,none⟩=some (.slice y.b y.x.gs.length y.d):=by have:=hcY 3 _ rfl;simpa using this
               have hyl1:y.x.ts.length≤250:=by have:=hyx.1;omega
               have hyl2:y.x.gs.length≤50:=hyx.2.1
               obtain ⟨wi2,hwi2⟩:∃ wi2,wr.alloc (.cells #[.int .i64 (y.t:Int),.bool true,.slice y.a y.x.ts.length y.c,.slice y.b y.x.gs.length y.d] 91)=wi2:=⟨_,rfl⟩
               have hb12:Below wr.heap.size wr wi2:=by rw[←hwi2];exact bw1 _ _
               have HX2:Hid (wi2.heap[wr.heap.size]?=some (.cells #[.int .i64 (y.t:Int),.bool true,.slice y.a y.x.ts.length y.c,.slice y.b y.x.gs.length y.d] 91)):=by rw[←hwi2];exact qKz _ _
               have HJ2:Hid (FoI w (.cells #[.slice (some ⟨b,off,none⟩) lc cc] 31) (.cells #[.string name,.int .i64 line,.int .i64 (m:Int),.bool true,.int .i64 (nR:Int),.slice au ups.length cu,.slice ad consts.length cd,.slice (some ⟨bi,oi,none⟩) nI ci,.slice an named.length cn] 75) WX nR nI ys ⟨zs.map SR.o,due.set q false⟩ k wi2 zs2 due2):=HJ.out.later hb12
               have HL2:Hid (y.lie wi2):=⟨((HLY.out y hym).h1.butl intC_int HNo.out HJ.out.bl).later hb12,((HLY.out y hym).h2.butl GD_int HNo.out HJ.out.bl).later hb12⟩
               have HY:Hid (ys[k]?=some y):=hy
               have hzl2:zs2.length=nI:=by have:=HJ.out.ok.l1;simpa using this
               have hdl2:due2.length=nI:=HJ.out.ok.l2
               have hs3:=blk_lt HJ.out.dub
               obtain ⟨z,hz⟩:∃ z,zs2[y.t]?=some z:=⟨zs2[y.t]'(by omega),by simp⟩
               have c0:wi2.cell? ⟨w.heap.size+1+1+1,y.t*3,none⟩=some (.bool z.o.isSome):=HJ2.out.st.cell (j:=0) hz rfl
               have c1:=HJ2.out.st.cell (j:=1) hz rfl
               have c2:=HJ2.out.st.cell (j:=2) hz rfl
               have x0:wi2.cell? ⟨wr.heap.size,0,none⟩=some (.int .i64 (y.t:Int)):=by rw[qAz HX2.out];rfl
               have x1:wi2.cell? ⟨wr.heap.size,1,none⟩=some (.bool true):=by rw[qAz HX2.out];rfl
               have x2:wi2.cell? ⟨wr.heap.size,2,none⟩=some (.slice y.a y.x.ts.length y.c):=by rw[qAz HX2.out];rfl
               have x3:wi2.cell? ⟨wr.heap.size,3,none⟩=some (.slice y.b y.x.gs.length y.d):=by rw[qAz HX2.out];rfl
               have hzm:(zs2.map SR.o)[y.t]?=some z.o:=by rw[List.getElem?_map,hz];rfl
               clear hcY hslY hy hym hb12 HJ
               cases hzo:z.o with
               | none =>
                rw[hzo] at c0 hzm
                have hzk:=HJ2.out.st.ok z (List.mem_of_getElem? hz)
                unfold SR.ok at hzk
                rw[hzo] at hzk
                dsimp only at hzk
                rw[hzk.1] at c1
                rw[hzk.2] at c2
                have HCJ:Hid (∀ wk,Below wi2.heap.size wi2 wk→wk.cell? ⟨w.heap.size+1+1+1,y.t*3,none⟩=some (.bool false)∧wk.cell? ⟨w.heap.size+1+1+1,y.t*3+1,none⟩=some (.slice none 0 0)∧wk.cell? ⟨w.heap.size+1+1+1,y.t*3+2,none⟩=some (.slice none 0 0)∧wk.cell? ⟨wr.heap.size,0,none⟩=some (.int .i64 (y.t:Int))∧wk.cell? ⟨wr.heap.size,3,none⟩=some (.slice y.b y.x.gs.length y.d)∧wk.cell? ⟨w.heap.size+1+1+1+1,y.t,none⟩=some (.bool (due2.getD y.t false))∧(∀ j,wk.frozen? ⟨w.heap.size+1+1+1,j,none⟩=false)∧(∀ j,wk.frozen? ⟨w.heap.size+1+1+1+1,j,none⟩=false)):=fun wk hk=>⟨cell_later hk c0,cell_later hk c1,cell_later hk c2,cell_later hk x0,cell_later hk x3,by rw[qAz (qBz hk HJ2.out.dub),mb_get _ _ (by omega)],fun j=>qGz (qBz hk HJ2.out.st.blk) j,fun j=>qGz (qBz hk HJ2.out.dub) j⟩
                clear hzk c1 c2 x1
                go_wp2_with fail
                clear y0 y1 y2 y3 hwi2
                go_cut [] from 179 to 191 (fun wx=>∃ tv gv wj,Hid (Below wi2.heap.size wi2 wj)∧Hid (ORow wj wi2.heap.size 3 1 intC tv y.x.ts)∧Hid (ORow wj wi2.heap.size 113 3 GD.cells gv y.x.gs)∧wx=((wj.setCell ⟨w.heap.size+1+1+1,y.t*3,none⟩ (.bool true)).setCell ⟨w.heap.size+1+1+1,y.t*3+1,none⟩ tv).setCell ⟨w.heap.size+1+1+1,y.t*3+2,none⟩ gv)
                case first =>
                 refine wp_region_inv (by kernel_rfl) (fun base listed a' w'=>∃ b0 b1 b2 b3 b4 b5 b6 b7 b8 b9 b10 b11 b12 b13 x0' x1' x2' x3' x4' x5' x6' x7' x8' x9' x10' x11' x12',listed=#[b0,b1,b2,b3,b4,b5,b6,b7,b8,b9,b10,b11,b12,b13]∧a'=(((((((((((((base.put (some 179) x0').put (some 180) x1').put (some 181) x2').put (some 182) x3').put (some 183) x4').put (some 184) x5').put (some 185) x6').put (some 186) x7').put (some 187) x8').put (some 188) x9').put (some 189) x10').put (some 190) x11').put (some 191) x12')∧(b13=false→R40 wi2 (w.heap.size+1+1+1) wr.heap.size nI y w' b0 b1 b2 b3 b4 b5 b6 b7 b8 b9 b10 b11 x0' x1' x2' x3' x4' x5' x6' x7' x8' x9' x10' x11'∧(b12=true→x12'=.pointer (some ⟨w.heap.size+1+1+1,y.t*3,none⟩)))∧(b12=true→b0=true∧b1=true∧b2=true∧b3=true∧b4=true∧b5=true∧b6=true∧b7=true∧b8=true∧b9=true∧b10=true∧b11=true)∧(b13=true→b12=true∧∃ tv gv wj,Hid (Below wi2.heap.size wi2 wj)∧Hid (ORow wj wi2.heap.size 3 1 intC tv y.x.ts)∧Hid (ORow wj wi2.heap.size 113 3 GD.cells gv y.x.gs)∧w'=((wj.setCell ⟨w.heap.size+1+1+1,y.t*3,none⟩ (.bool true)).setCell ⟨w.heap.size+1+1+1,y.t*3+1,none⟩ tv).setCell ⟨w.heap.size+1+1+1,y.t*3+2,none⟩ gv)) ?_ ?_ ?_
                 ·exact ⟨false,false,false,false,false,false,false,false,false,false,false,false,false,false,u179,u180,u181,u182,u183,u184,u185,u186,u187,u188,u189,u190,u191,rfl,by kernel_rfl,fun _=>⟨⟨(Below.refl _ _).drew,nofun,nofun,nofun,nofun,nofun,nofun,nofun,nofun,nofun,nofun,nofun,nofun⟩,nofun⟩,nofun,nofun⟩
                 ·rintro i listed a' w' ⟨b0,b1,b2,b3,b4,b5,b6,b7,b8,b9,b10,b11,b12,b13,x0',x1',x2',x3',x4',x5',x6',x7',x8',x9',x10',x11',x12',rfl,rfl,hI,hA,hD⟩ hr
                  have hi:=ready_lt hr
                  have hun:=(mem_ready.1 hr).1
                  simp only[List.size_toArray,List.length_cons,List.length_nil,Nat.zero_add,Nat.reduceAdd] at hi
                  have hi':i=0∨i=1∨i=2∨i=3∨i=4∨i=5∨i=6∨i=7∨i=8∨i=9∨i=10∨i=11∨i=12∨i=13:=by omega
                  clear hi
                  rcases hi' with rfl|rfl|rfl|rfl|rfl|rfl|rfl|rfl|rfl|rfl|rfl|rfl|rfl|rfl
                  ·have hbi:b0=false:=by simpa using hun
                   have hb12:b12=false:=by
                    cases b12 with
                    | false=>rfl
                    | true=>obtain ⟨e0,e1,e2,e3,e4,e5,e6,e7,e8,e9,e10,e11⟩:=hA rfl;rw[e0] at hbi;cases hbi
                   have hb13:b13=false:=by
                    cases b13 with
                    | false=>rfl
                    | true=>have h:=(hD rfl).1;rw[hb12] at h;cases h
                   subst hbi hb12 hb13 
                   have hI9:=hI rfl
                   clear hI
                   obtain ⟨hI,hI2⟩:=hI9
                   clear hD hA hr hun
                   refine wpOp_step rfl (fun K hK=>?_)
                   go_simp
                   exact hK _ _ ⟨true,b1,b2,b3,b4,b5,b6,b7,b8,b9,b10,b11,false,false,.slice (some ⟨w.heap.size+1+1+1,0,none⟩) nI nI,x1',x2',x3',x4',x5',x6',x7',x8',x9',x10',x11',x12',rfl,by kernel_rfl,fun _=>⟨{ hI with h0:=fun _=>rfl },nofun⟩,nofun,nofun⟩
                  ·have hbi:b1=false:=by simpa using hun
                   have hb12:b12=false:=by
                    cases b12 with
                    | false=>rfl
                    | true=>obtain ⟨e0,e1,e2,e3,e4,e5,e6,e7,e8,e9,e10,e11⟩:=hA rfl;rw[e1] at hbi;cases hbi
                   have hb13:b13=false:=by
                    cases b13 with
                    | false=>rfl
                    | true=>have h:=(hD rfl).1;rw[hb12] at h;cases h
                   subst hbi hb12 hb13 
                   have hI9:=hI rfl
                   clear hI
                   obtain ⟨hI,hI2⟩:=hI9
                   clear hD hA hr hun
                   refine wpOp_step rfl (fun K hK=>?_)
                   go_simp
                   exact hK _ _ ⟨b0,true,b2,b3,b4,b5,b6,b7,b8,b9,b10,b11,false,false,x0',.pointer (some ⟨wr.heap.size,0,none⟩),x2',x3',x4',x5',x6',x7',x8',x9',x10',x11',x12',rfl,by kernel_rfl,fun _=>⟨{ hI with h1:=fun _=>rfl },nofun⟩,nofun,nofun⟩
                  ·have hbi:b2=false:=by simpa using hun
                   have hb12:b12=false:=by
                    cases b12 with
                    | false=>rfl
                    | true=>obtain ⟨e0,e1,e2,e3,e4,e5,e6,e7,e8,e9,e10,e11⟩:=hA rfl;rw[e2] at hbi;cases hbi
                   have hb13:b13=false:=by
                    cases b13 with
                    | false=>rfl
                    | true=>have h:=(hD rfl).1;rw[hb12] at h;cases h
                   have e1:b1=true:=by simpa using qCz hr rfl ⟨1,.data⟩ (by simp) rfl
                   subst hbi hb12 hb13 e1
                   have hI9:=hI rfl
                   clear hI
                   obtain ⟨hI,hI2⟩:=hI9
                   clear hD hA hr hun
                   obtain rfl:=hI.h1 rfl
                   have cx:w'.cell? ⟨wr.heap.size,0,none⟩=some (.int .i64 (y.t:Int)):=cell_later hI.hb x0
                   refine wpOp_step rfl (fun K hK=>?_)
                   go_simp
                   exact hK _ _ ⟨b0,true,true,b3,b4,b5,b6,b7,b8,b9,b10,b11,false,false,x0',.pointer (some ⟨wr.heap.size,0,none⟩),.int .i64 (y.t:Int),x3',x4',x5',x6',x7',x8',x9',x10',x11',x12',rfl,by kernel_rfl,fun _=>⟨{ hI with h2:=fun _=>rfl },nofun⟩,nofun,nofun⟩
                  ·have hbi:b3=false:=by simpa using hun
                   have hb12:b12=false:=by
                    cases b12 with
                    | false=>rfl
                    | true=>obtain ⟨e0,e1,e2,e3,e4,e5,e6,e7,e8,e9,e10,e11⟩:=hA rfl;rw[e3] at hbi;cases hbi
                   have hb13:b13=false:=by
                    cases b13 with
                    | false=>rfl
                    | true=>have h:=(hD rfl).1;rw[hb12] at h;cases h
                   subst hbi hb12 hb13 
                   have hI9:=hI rfl
                   clear hI
                   obtain ⟨hI,hI2⟩:=hI9
                   clear hD hA hr hun
                   refine wpOp_step rfl (fun K hK=>?_)
                   go_simp
                   exact hK _ _ ⟨b0,b1,b2,true,b4,b5,b6,b7,b8,b9,b10,b11,false,false,x0',x1',x2',.pointer (some ⟨wr.heap.size,1,none⟩),x4',x5',x6',x7',x8',x9',x10',x11',x12',rfl,by kernel_rfl,fun _=>⟨{ hI with h3:=fun _=>rfl },nofun⟩,nofun,nofun⟩
                  ·have hbi:b4=false:=by simpa using hun
                   have hb12:b12=false:=by
                    cases b12 with
                    | false=>rfl
                    | true=>obtain ⟨e0,e1,e2,e3,e4,e5,e6,e7,e8,e9,e10,e11⟩:=hA rfl;rw[e4] at hbi;cases hbi
                   have hb13:b13=false:=by
                    cases b13 with
                    | false=>rfl
                    | true=>have h:=(hD rfl).1;rw[hb12] at h;cases h
                   have e3:b3=true:=by simpa using qCz hr rfl ⟨3,.data⟩ (by simp) rfl
                   subst hbi hb12 hb13 e3
                   have hI9:=hI rfl
                   clear hI
                   obtain ⟨hI,hI2⟩:=hI9
                   clear hD hA hr hun
                   obtain rfl:=hI.h3 rfl
                   refine wpOp_step rfl (fun K hK=>?_)
                   go_simp
                   exact hK _ _ ⟨b0,b1,b2,true,true,b5,b6,b7,b8,b9,b10,b11,false,false,x0',x1',x2',.pointer (some ⟨wr.heap.size,1,none⟩),.pointer (some ⟨wr.heap.size,2,none⟩),x5',x6',x7',x8',x9',x10',x11',x12',rfl,by kernel_rfl,fun _=>⟨{ hI with h4:=fun _=>rfl },nofun⟩,nofun,nofun⟩
                  ·have hbi:b5=false:=by simpa using hun
                   have hb12:b12=false:=by
                    cases b12 with
                    | false=>rfl
                    | true=>obtain ⟨e0,e1,e2,e3,e4,e5,e6,e7,e8,e9,e10,e11⟩:=hA rfl;rw[e5] at hbi;cases hbi
                   have hb13:b13=false:=by
                    cases b13 with
                    | false=>rfl
                    | true=>have h:=(hD rfl).1;rw[hb12] at h;cases h
                   have e4:b4=true:=by simpa using qCz hr rfl ⟨4,.data⟩ (by simp) rfl
                   subst hbi hb12 hb13 e4
                   have hI9:=hI rfl
                   clear hI
                   obtain ⟨hI,hI2⟩:=hI9
                   clear hD hA hr hun
                   obtain rfl:=hI.h4 rfl
                   have cx:w'.cell? ⟨wr.heap.size,2,none⟩=some (.slice y.a y.x.ts.length y.c):=cell_later hI.hb x2
                   refine wpOp_step rfl (fun K hK=>?_)
                   go_simp
                   exact hK _ _ ⟨b0,b1,b2,b3,true,true,b6,b7,b8,b9,b10,b11,false,false,x0',x1',x2',x3',.pointer (some ⟨wr.heap.size,2,none⟩),.slice y.a y.x.ts.length y.c,x6',x7',x8',x9',x10',x11',x12',rfl,by kernel_rfl,fun _=>⟨{ hI with h5:=fun _=>rfl },nofun⟩,nofun,nofun⟩
                  ·have hbi:b6=false:=by simpa using hun
                   have hb12:b12=false:=by
                    cases b12 with
                    | false=>rfl
                    | true=>obtain ⟨e0,e1,e2,e3,e4,e5,e6,e7,e8,e9,e10,e11⟩:=hA rfl;rw[e6] at hbi;cases hbi
                   have hb13:b13=false:=by
                    cases b13 with
                    | false=>rfl
                    | true=>have h:=(hD rfl).1;rw[hb12] at h;cases h
                   have e5:b5=true:=by simpa using qCz hr rfl ⟨5,.data⟩ (by simp) rfl
                   subst hbi hb12 hb13 e5
                   have hI9:=hI rfl
                   clear hI
                   obtain ⟨hI,hI2⟩:=hI9
                   clear hD hA hr hun
                   obtain rfl:=hI.h5 rfl
                   refine wpOp_step rfl (fun K hK=>?_)
                   go_simp
                   refine (copy_any y.a y.x.ts.length y.c y.x.ts _ rfl (HL2.out.h1.later hI.hb) (by omega)).mono ?_
                   rintro e w2 ⟨⟨sv,rfl,ho⟩,hx⟩
                   obtain ⟨a7,c7,rfl⟩:=ORow.val (cells:=intC) ho
                   have ho':ORow w2 wi2.heap.size 3 1 intC (.slice a7 y.x.ts.length c7) y.x.ts:=ORow.mono (cells:=intC) ho hI.hb.size
                   have hI3:=hI.later hx
                   have e11:b11=false:=by
                    cases b11 with
                    | false=>rfl
                    | true=>exact absurd (hI.h11 rfl).1 (by simp)
                   subst e11
                   exact hK _ _ ⟨b0,b1,b2,b3,b4,true,true,b7,b8,b9,b10,false,false,false,x0',x1',x2',x3',x4',.slice y.a y.x.ts.length y.c,(.slice a7 y.x.ts.length c7),x7',x8',x9',x10',x11',x12',rfl,by kernel_rfl,fun _=>⟨{ hI3 with h6:=fun _=>⟨a7,c7,rfl,ho'⟩,h11:=nofun },nofun⟩,nofun,nofun⟩
                  ·have hbi:b7=false:=by simpa using hun
                   have hb12:b12=false:=by
                    cases b12 with
                    | false=>rfl
                    | true=>obtain ⟨e0,e1,e2,e3,e4,e5,e6,e7,e8,e9,e10,e11⟩:=hA rfl;rw[e7] at hbi;cases hbi
                   have hb13:b13=false:=by
                    cases b13 with
                    | false=>rfl
                    | true=>have h:=(hD rfl).1;rw[hb12] at h;cases h
                   subst hbi hb12 hb13 
                   have hI9:=hI rfl
                   clear hI
                   obtain ⟨hI,hI2⟩:=hI9
                   clear hD hA hr hun
                   refine wpOp_step rfl (fun K hK=>?_)
                   go_simp
                   exact hK _ _ ⟨b0,b1,b2,b3,b4,b5,b6,true,b8,b9,b10,b11,false,false,x0',x1',x2',x3',x4',x5',x6',.pointer (some ⟨wr.heap.size,1,none⟩),x8',x9',x10',x11',x12',rfl,by kernel_rfl,fun _=>⟨{ hI with h7:=fun _=>rfl },nofun⟩,nofun,nofun⟩
                  ·have hbi:b8=false:=by simpa using hun
                   have hb12:b12=false:=by
                    cases b12 with
                    | false=>rfl
                    | true=>obtain ⟨e0,e1,e2,e3,e4,e5,e6,e7,e8,e9,e10,e11⟩:=hA rfl;rw[e8] at hbi;cases hbi
                   have hb13:b13=false:=by
                    cases b13 with
                    | false=>rfl
                    | true=>have h:=(hD rfl).1;rw[hb12] at h;cases h
                   have e7:b7=true:=by simpa using qCz hr rfl ⟨7,.data⟩ (by simp) rfl
                   subst hbi hb12 hb13 e7
                   have hI9:=hI rfl
                   clear hI
                   obtain ⟨hI,hI2⟩:=hI9
                   clear hD hA hr hun
                   obtain rfl:=hI.h7 rfl
                   refine wpOp_step rfl (fun K hK=>?_)
                   go_simp
                   exact hK _ _ ⟨b0,b1,b2,b3,b4,b5,b6,true,true,b9,b10,b11,false,false,x0',x1',x2',x3',x4',x5',x6',.pointer (some ⟨wr.heap.size,1,none⟩),.pointer (some ⟨wr.heap.size,3,none⟩),x9',x10',x11',x12',rfl,by kernel_rfl,fun _=>⟨{ hI with h8:=fun _=>rfl },nofun⟩,nofun,nofun⟩
                  ·have hbi:b9=false:=by simpa using hun
                   have hb12:b12=false:=by
                    cases b12 with
                    | false=>rfl
                    | true=>obtain ⟨e0,e1,e2,e3,e4,e5,e6,e7,e8,e9,e10,e11⟩:=hA rfl;rw[e9] at hbi;cases hbi
                   have hb13:b13=false:=by
                    cases b13 with
                    | false=>rfl
                    | true=>have h:=(hD rfl).1;rw[hb12] at h;cases h
                   have e8:b8=true:=by simpa using qCz hr rfl ⟨8,.data⟩ (by simp) rfl
                   subst hbi hb12 hb13 e8
                   have hI9:=hI rfl
                   clear hI
                   obtain ⟨hI,hI2⟩:=hI9
                   clear hD hA hr hun
                   obtain rfl:=hI.h8 rfl
                   have cx:w'.cell? ⟨wr.heap.size,3,none⟩=some (.slice y.b y.x.gs.length y.d):=cell_later hI.hb x3
                   refine wpOp_step rfl (fun K hK=>?_)
                   go_simp
                   exact hK _ _ ⟨b0,b1,b2,b3,b4,b5,b6,b7,true,true,b10,b11,false,false,x0',x1',x2',x3',x4',x5',x6',x7',.pointer (some ⟨wr.heap.size,3,none⟩),.slice y.b y.x.gs.length y.d,x10',x11',x12',rfl,by kernel_rfl,fun _=>⟨{ hI with h9:=fun _=>rfl },nofun⟩,nofun,nofun⟩
                  ·have hbi:b10=false:=by simpa using hun
                   have hb12:b12=false:=by
                    cases b12 with
                    | false=>rfl
                    | true=>obtain ⟨e0,e1,e2,e3,e4,e5,e6,e7,e8,e9,e10,e11⟩:=hA rfl;rw[e10] at hbi;cases hbi
                   have hb13:b13=false:=by
                    cases b13 with
                    | false=>rfl
                    | true=>have h:=(hD rfl).1;rw[hb12] at h;cases h
                   have e9:b9=true:=by simpa using qCz hr rfl ⟨9,.data⟩ (by simp) rfl
                   have e6:b6=true:=by simpa using qCz hr rfl ⟨6,.chain⟩ (by simp) rfl
                   subst hbi hb12 hb13 e9 e6
                   have hI9:=hI rfl
                   clear hI
                   obtain ⟨hI,hI2⟩:=hI9
                   clear hD hA hr hun
                   obtain rfl:=hI.h9 rfl
                   refine wpOp_step rfl (fun K hK=>?_)
                   go_simp
                   refine (guards_any y.b y.x.gs.length y.d y.x.gs _ rfl (HL2.out.h2.later hI.hb) (by omega)).mono ?_
                   rintro e w2 ⟨⟨sv,rfl,ho⟩,hx⟩
                   obtain ⟨a8,c8,rfl⟩:=ORow.val (cells:=GD.cells) ho
                   have ho':ORow w2 wi2.heap.size 113 3 GD.cells (.slice a8 y.x.gs.length c8) y.x.gs:=ORow.mono (cells:=GD.cells) ho hI.hb.size
                   have hI3:=hI.later hx
                   have e11:b11=false:=by
                    cases b11 with
                    | false=>rfl
                    | true=>exact absurd (hI.h11 rfl).2.1 (by simp)
                   subst e11
                   exact hK _ _ ⟨b0,b1,b2,b3,b4,b5,true,b7,b8,true,true,false,false,false,x0',x1',x2',x3',x4',x5',x6',x7',x8',.slice y.b y.x.gs.length y.d,(.slice a8 y.x.gs.length c8),x11',x12',rfl,by kernel_rfl,fun _=>⟨{ hI3 with h10:=fun _=>⟨a8,c8,rfl,ho'⟩,h11:=nofun },nofun⟩,nofun,nofun⟩
                  ·have hbi:b11=false:=by simpa using hun
                   have hb12:b12=false:=by
                    cases b12 with
                    | false=>rfl
                    | true=>obtain ⟨e0,e1,e2,e3,e4,e5,e6,e7,e8,e9,e10,e11⟩:=hA rfl;rw[e11] at hbi;cases hbi
                   have hb13:b13=false:=by
                    cases b13 with
                    | false=>rfl
                    | true=>have h:=(hD rfl).1;rw[hb12] at h;cases h
                   have e6:b6=true:=by simpa using qCz hr rfl ⟨6,.data⟩ (by simp) rfl
                   have e10:b10=true:=by simpa using qCz hr rfl ⟨10,.data⟩ (by simp) rfl
                   subst hbi hb12 hb13 e6 e10
                   have hI9:=hI rfl
                   clear hI
                   obtain ⟨hI,hI2⟩:=hI9
                   clear hD hA hr hun
                   obtain ⟨a7,c7,rfl,ho7⟩:=hI.h6 rfl
                   obtain ⟨a8,c8,rfl,ho8⟩:=hI.h10 rfl
                   refine wpOp_step rfl (fun K hK=>?_)
                   go_simp
                   exact hK _ _ ⟨b0,b1,b2,b3,b4,b5,true,b7,b8,b9,true,true,false,false,x0',x1',x2',x3',x4',x5',(.slice a7 y.x.ts.length c7),x7',x8',x9',(.slice a8 y.x.gs.length c8),(.agg #[.bool true,.slice a7 y.x.ts.length c7,.slice a8 y.x.gs.length c8]),x12',rfl,by kernel_rfl,fun _=>⟨{ hI with h6:=fun _=>⟨a7,c7,rfl,ho7⟩,h10:=fun _=>⟨a8,c8,rfl,ho8⟩,h11:=fun _=>⟨rfl,rfl,rfl⟩ },nofun⟩,nofun,nofun⟩
                  ·have hb12:b12=false:=by simpa using hun
                   have hb13:b13=false:=by
                    cases b13 with
                    | false=>rfl
                    | true=>have h:=(hD rfl).1;rw[hb12] at h;cases h
                   have e0:b0=true:=by simpa using qCz hr rfl ⟨0,.phase⟩ (by simp) rfl
                   have e1:b1=true:=by simpa using qCz hr rfl ⟨1,.phase⟩ (by simp) rfl
                   have e2:b2=true:=by simpa using qCz hr rfl ⟨2,.phase⟩ (by simp) rfl
                   have e3:b3=true:=by simpa using qCz hr rfl ⟨3,.phase⟩ (by simp) rfl
                   have e4:b4=true:=by simpa using qCz hr rfl ⟨4,.phase⟩ (by simp) rfl
                   have e5:b5=true:=by simpa using qCz hr rfl ⟨5,.phase⟩ (by simp) rfl
                   have e6:b6=true:=by simpa using qCz hr rfl ⟨6,.phase⟩ (by simp) rfl
                   have e7:b7=true:=by simpa using qCz hr rfl ⟨7,.phase⟩ (by simp) rfl
                   have e8:b8=true:=by simpa using qCz hr rfl ⟨8,.phase⟩ (by simp) rfl
                   have e9:b9=true:=by simpa using qCz hr rfl ⟨9,.phase⟩ (by simp) rfl
                   have e10:b10=true:=by simpa using qCz hr rfl ⟨10,.phase⟩ (by simp) rfl
                   have e11:b11=true:=by simpa using qCz hr rfl ⟨11,.phase⟩ (by simp) rfl
                   subst hb12 hb13 e0 e1 e2 e3 e4 e5 e6 e7 e8 e9 e10 e11
                   have hI9:=hI rfl
                   clear hI
                   obtain ⟨hI,hI2⟩:=hI9
                   clear hD hA hr hun
                   obtain rfl:=hI.h0 rfl
                   obtain rfl:=hI.h2 rfl
                   refine wpOp_step rfl (fun K hK=>?_)
                   go_simp
                   exact hK _ _ ⟨true,true,true,true,true,true,true,true,true,true,true,true,true,false,.slice (some ⟨w.heap.size+1+1+1,0,none⟩) nI nI,x1',.int .i64 (y.t:Int),x3',x4',x5',x6',x7',x8',x9',x10',x11',.pointer (some ⟨w.heap.size+1+1+1,y.t*3,none⟩),rfl,by kernel_rfl,fun _=>⟨hI,fun _=>rfl⟩,fun _=>⟨rfl,rfl,rfl,rfl,rfl,rfl,rfl,rfl,rfl,rfl,rfl,rfl⟩,nofun⟩
                  ·have hb13:b13=false:=by simpa using hun
                   have e12:b12=true:=by simpa using qCz hr rfl ⟨12,.data⟩ (by simp) rfl
                   obtain ⟨e0,e1,e2,e3,e4,e5,e6,e7,e8,e9,e10,e11⟩:=hA e12
                   subst hb13 e12 e0 e1 e2 e3 e4 e5 e6 e7 e8 e9 e10 e11
                   have hI9:=hI rfl
                   clear hI
                   obtain ⟨hI,hI2⟩:=hI9
                   obtain rfl:=hI2 rfl
                   obtain ⟨a7,c7,rfl,ho7⟩:=hI.h6 rfl
                   obtain ⟨a8,c8,rfl,ho8⟩:=hI.h10 rfl
                   obtain rfl:=(hI.h11 rfl).2.2
                   clear hD hA hr hun
                   obtain ⟨d0,d1,d2,d3,d4,d5,fz3,fz4⟩:=HCJ.out _ hI.hb
                   clear d3 d4 d5 fz4
                   refine wpOp_step rfl (fun K hK=>?_)
                   go_simp
                   exact hK _ _ ⟨true,true,true,true,true,true,true,true,true,true,true,true,true,true,x0',x1',x2',x3',x4',x5',(.slice a7 y.x.ts.length c7),x7',x8',x9',(.slice a8 y.x.gs.length c8),(.agg #[.bool true,.slice a7 y.x.ts.length c7,.slice a8 y.x.gs.length c8]),.pointer (some ⟨w.heap.size+1+1+1,y.t*3,none⟩),rfl,by kernel_rfl,nofun,fun _=>⟨rfl,rfl,rfl,rfl,rfl,rfl,rfl,rfl,rfl,rfl,rfl,rfl⟩,fun _=>⟨rfl,_,_,w',hI.hb,ho7,ho8,rfl⟩⟩
                 ·rintro listed a' w' ⟨b0,b1,b2,b3,b4,b5,b6,b7,b8,b9,b10,b11,b12,b13,x0',x1',x2',x3',x4',x5',x6',x7',x8',x9',x10',x11',x12',rfl,rfl,hI,hA,hD⟩ hrd
                  have e0:b0=true:=by simpa using qMz hrd 0 rfl (by simp)
                  have e1:b1=true:=by simpa using qMz hrd 1 rfl (by simp)
                  have e2:b2=true:=by simpa using qMz hrd 2 rfl (by simp[e1])
                  have e3:b3=true:=by simpa using qMz hrd 3 rfl (by simp)
                  have e4:b4=true:=by simpa using qMz hrd 4 rfl (by simp[e3])
                  have e5:b5=true:=by simpa using qMz hrd 5 rfl (by simp[e4])
                  have e6:b6=true:=by simpa using qMz hrd 6 rfl (by simp[e5])
                  have e7:b7=true:=by simpa using qMz hrd 7 rfl (by simp)
                  have e8:b8=true:=by simpa using qMz hrd 8 rfl (by simp[e7])
                  have e9:b9=true:=by simpa using qMz hrd 9 rfl (by simp[e8])
                  have e10:b10=true:=by simpa using qMz hrd 10 rfl (by simp[e9,e6])
                  have e11:b11=true:=by simpa using qMz hrd 11 rfl (by simp[e6,e10])
                  have e12:b12=true:=by simpa using qMz hrd 12 rfl (by simp[e0,e1,e2,e3,e4,e5,e6,e7,e8,e9,e10,e11])
                  have e13:b13=true:=by simpa using qMz hrd 13 rfl (by simp[e0,e1,e2,e3,e4,e5,e6,e7,e8,e9,e10,e11,e12])
                  have hd:=(hD e13).2
                  clear hI hD hA hrd e0 e1 e2 e3 e4 e5 e6 e7 e8 e9 e10 e11 e12 e13
                  go_wp2_with fail
                  go_simp
                  go_meet
                  exact hd
                case rest =>
                 obtain ⟨tv,gv,wj,HBj,HTj,HGj,hwc⟩:=hcut
                 clear c0 x0 x2 x3
                 obtain ⟨c0,c1,c2,x0,x3,f4,fz3,fz4⟩:=HCJ.out _ HBj.out
                 have HFN:Hid _:=HJ2.out.new HY.out hzm hyx HBj.out HTj.out HGj.out rfl
                 subst hwc
                 clear c0 c1 c2 x3 fz3
                 go_wp2_with fail
                 go_roundw
                 case rel=>exact ⟨k+1,_,_,by omega,by go_num,HFN⟩
                 case measure=>simp[intOf];omega
               | some x' =>
                rw[hzo] at c0 hzm
                have hzk:=HJ2.out.st.ok z (List.mem_of_getElem? hz)
                unfold SR.ok at hzk
                rw[hzo] at hzk
                dsimp only at hzk
                obtain ⟨aZ,cZ,htv,hslZ⟩:=hzk.1.lies intC_len
                obtain ⟨aH,cH,hgv,hslH⟩:=hzk.2.lies GD.len
                rw[htv] at c1
                rw[hgv] at c2
                have hx'ok:=HJ2.out.ok.ok y.t x' hzm
                have hx'1:x'.ts.length≤250:=by have:=hx'ok.1;omega
                have hx'2:x'.gs.length≤50:=hx'ok.2.1
                have HSZ:Hid (SlA wi2 1 intC aZ x'.ts):=hslZ
                have HSH:Hid (SlA wi2 3 GD.cells aH x'.gs):=hslH
                clear hzk htv hgv hslZ hslH hx'ok
                cases hse:sEq x' y.x
                ·have HRR:Hid (R=.error (13,y.t)):=by
                  show R=_
                  have hps:=HPS.out _ (HJ2.out.differ HY.out hzm hse)
                  obtain ⟨kk,hkk⟩:=HI.out.run
                  exact (Runs.uniq hkk (show Runs (xs.map FC.d) ins 0 ⟨zs.map SR.o,due⟩ (.error (13,y.t)) from .inr ⟨q,_,HLe.out,hps,rfl⟩)).1
                 go_wp2_with fail
                 clear y0 y1 y2 y3 hwi2
                 go_cut [204] from 196 to 203 (fun s204 wx=>s204=.bool true∧Hid (Below wi2.heap.size wi2 wx))
                 case first =>
                  go_region_with (go_at_call 43;refine (same_any true true aZ y.a aH y.b x'.ts.length y.x.ts.length x'.gs.length y.x.gs.length cZ y.c cH y.d x'.ts y.x.ts x'.gs y.x.gs _ rfl rfl rfl rfl (HSZ.out.later (Below.refl _ _).drew) (HL2.out.h1.later (Below.refl _ _).drew) (HSH.out.later (Below.refl _ _).drew) (HL2.out.h2.later (Below.refl _ _).drew) (by omega) (by omega)).mono ?_;rw[show (all2 (·==·) x'.ts y.x.ts&&all2 gEq x'.gs y.x.gs)=false from hse];rintro e w7 ⟨rfl,hb7⟩;replace hb7:=und1 hb7)
                  all_goals
                   go_wp2_with fail
                   go_meet
                   exact ⟨rfl,hb7⟩
                 case rest =>
                  obtain ⟨rfl,HB7⟩:=hcut
                  replace x0:=cell_later HB7.out x0
                  clear c0 c1 c2 x1 x2 x3
                  go_wp2_with fail
                  refine (fault_b _ _ _ _).mono ?_
                  rintro e w9 ⟨rfl,hx9⟩
                  have B1':=qBz hx9 (qBz HB7.out HJ2.out.flt)
                  have r0:w9.cell? ⟨w.heap.size+1,0,none⟩=some (.int .i64 0):=by rw[qAz B1'];rfl
                  have r1:w9.cell? ⟨w.heap.size+1,1,none⟩=some (.int .i64 0):=by rw[qAz B1'];rfl
                  have r2:w9.cell? ⟨w.heap.size+1,2,none⟩=some (.int .i64 0):=by rw[qAz B1'];rfl
                  have z9:=qGz B1'
                  have hz9:=(HJ2.out.bel.trans (HB7.out.mono HJ2.out.bel.size)).trans (hx9.mono (HJ2.out.bel.trans (HB7.out.mono HJ2.out.bel.size)).size)
                  clear B1' hx9
                  go_wp2_with fail
                  refine bodyPost_ret (v:=.tuple #[.slice none 0 0,FV 13 (p:Int) (y.t:Int)]) (by simp[results,Tryz.results19,go_sem,r0,r1,r2]) rfl ⟨?_,?_⟩
                  ·rw[HRR.out];rfl
                  ·exact ((hz9.setCell (p:=⟨w.heap.size+1,0,none⟩) (by simp) _).setCell (p:=⟨w.heap.size+1,1,none⟩) (by simp) _).setCell (p:=⟨w.heap.size+1,2,none⟩) (by simp) _
                ·have HS2:Hid _:=HJ2.out.same HY.out hzm hse
                 go_wp2_with fail
                 clear y0 y1 y2 y3 hwi2
                 go_cut [204] from 196 to 203 (fun s204 wx=>s204=.bool false∧Hid (Below wi2.heap.size wi2 wx))
                 case first =>
                  go_region_with (go_at_call 43;refine (same_any true true aZ y.a aH y.b x'.ts.length y.x.ts.length x'.gs.length y.x.gs.length cZ y.c cH y.d x'.ts y.x.ts x'.gs y.x.gs _ rfl rfl rfl rfl (HSZ.out.later (Below.refl _ _).drew) (HL2.out.h1.later (Below.refl _ _).drew) (HSH.out.later (Below.refl _ _).drew) (HL2.out.h2.later (Below.refl _ _).drew) (by omega) (by omega)).mono ?_;rw[show (all2 (·==·) x'.ts y.x.ts&&all2 gEq x'.gs y.x.gs)=true from hse];rintro e w7 ⟨rfl,hb7⟩;replace hb7:=und1 hb7)
                  all_goals
                   go_wp2_with fail
                   go_meet
                   exact ⟨rfl,hb7⟩
                 case rest =>
                  obtain ⟨rfl,HB7⟩:=hcut
                  have HS3:Hid _:=HS2.out.later HB7.out
                  clear c0 c1 c2 x0 x1 x2 x3
                  go_wp2_with fail
                  go_roundw
                  case rel=>exact ⟨k+1,_,_,by omega,by go_num,HS3⟩
                  case measure=>simp[intOf];omega
              ·have hke:k=ys.length:=by omega
               subst hke
               have hld:=HJ.out.lead
               rw[List.drop_length] at hld
               have hps:=HPS.out _ hld.symm
               obtain ⟨kk,hkk⟩:=HI.out.run
               have HRun:Hid (∃ k2,Runs (xs.map FC.d) ins k2 ⟨zs2.map SR.o,due2⟩ R):=by
                cases kk with
                | zero =>
                 rcases hkk with ⟨hoff,_⟩|⟨a,e,hle,hpe,_⟩
                 ·exact absurd HLe.out.1 (hoff q)
                 ·rw[hle.uniq HLe.out,hps] at hpe
                  cases hpe
                | succ kk =>
                 obtain ⟨a,s',hle,hpe,hrr⟩:=hkk
                 rw[hle.uniq HLe.out,hps] at hpe
                 cases hpe
                 exact ⟨kk,hrr⟩
               have HWI:Hid (WkI xs ins R nR nI w (.cells #[.slice (some ⟨b,off,none⟩) lc cc] 31) (.cells #[.string name,.int .i64 line,.int .i64 (m:Int),.bool true,.int .i64 (nR:Int),.slice au ups.length cu,.slice ad consts.length cd,.slice (some ⟨bi,oi,none⟩) nI ci,.slice an named.length cn] 75) wr zs2 due2):=⟨HJ.out.bel,HJ.out.code,HJ.out.flt,HJ.out.pro,HJ.out.st,HJ.out.dub,HJ.out.ok,HRun.out⟩
               have HMUL:Hid (mu ⟨zs2.map SR.o,due2⟩<mu ⟨zs.map SR.o,due⟩):=(mu_pass (by have:=HI.out.ok.l1;have:=HI.out.ok.l2;omega) HLe.out.1 hps).1
               clear hld hps hkk
               go_wp2_with fail
               go_roundw
               case rel=>exact ⟨zs2,due2,HWI⟩
               case measure =>
                have h1:=HWI.out.mu
                have h2:=HMU.out
                have h3:=HMUL.out
                omega
     ·have hqe:q=nI:=by omega
      subst hqe
      have HOff:Hid (AllOff due):=fun b hb=>by
       by_cases e:b<q
       ·exact HQ.out b e hb
       ·rw[List.getElem?_eq_none (by omega)] at hb;cases hb
      have HRok:Hid (R=.ok ⟨zs.map SR.o,due⟩):=by
       show R=_
       obtain ⟨k,hk⟩:=HI.out.run
       exact (Runs.uniq hk (show Runs (xs.map FC.d) ins 0 ⟨zs.map SR.o,due⟩ (.ok ⟨zs.map SR.o,due⟩) from .inl ⟨HOff.out,rfl⟩)).1
      go_wp2_with fail
      go_loopw [76] (fun r wi=>∃ j:Nat,j≤q∧r=.int .i64 j∧Hid (Below wr.heap.size wr wi)∧Hid (∀ b:Nat,b<j→(∃ x,(zs.map SR.o)[b]?=some (some x))→¬ TJ.Cyc E b)) (fun r _=>q-(intOf r).toNat)
      case atStart=>exact ⟨0,Nat.zero_le _,rfl,Below.refl _ _,fun b hb=>by omega⟩
      case round =>
       obtain ⟨j,hj,rfl,HBi,HN⟩:=hrel
       have HBi2:Hid (Below w.heap.size w wr):=HI.out.bel.trans (HBi.out.mono HI.out.bel.size)
       have PF:Hid _:=qBz HBi.out HI.out.pro
       have SF:Hid _:=HI.out.st.later HBi.out
       have FL:Hid _:=qBz HBi.out HI.out.flt
       by_cases k3:j<q
       ·obtain ⟨z,hz⟩:∃ z,zs[j]?=some z:=⟨zs[j]'(by omega),by simp⟩
        have c0:wr.cell? ⟨w.heap.size+1+1+1,j*3,none⟩=some (.bool z.o.isSome):=SF.out.cell (j:=0) hz rfl
        have hzo:(zs.map SR.o)[j]?=some z.o:=by rw[List.getElem?_map,hz];rfl
        cases ho:z.o.isSome
        ·rw[ho] at c0
         have HN2:Hid (∀ b:Nat,b<j+1→(∃ x,(zs.map SR.o)[b]?=some (some x))→¬ TJ.Cyc E b):=fun b hb hx=>by
          by_cases e:b=j
          ·subst e
           obtain ⟨x,hx⟩:=hx
           rw[hzo] at hx
           simp only[Option.some.injEq] at hx
           rw[hx] at ho
           cases ho
          ·exact HN.out b (by omega) hx
         go_wp2_with fail
         go_roundw
         case rel=>exact ⟨j+1,by omega,by go_num,HBi,HN2⟩
         case measure=>simp[intOf];omega
        ·rw[ho] at c0
         obtain ⟨x,hx⟩:=Option.isSome_iff_exists.1 ho
         have HXx:Hid (∃ x,(zs.map SR.o)[j]?=some (some x)):=⟨x,by rw[hzo,hx]⟩
         have q0:wr.cell? ⟨w.heap.size+1+1,0,none⟩=some (.string name):=by rw[qAz PF.out];rfl
         have q1:wr.cell? ⟨w.heap.size+1+1,1,none⟩=some (.int .i64 line):=by rw[qAz PF.out];rfl
         have q2:wr.cell? ⟨w.heap.size+1+1,2,none⟩=some (.int .i64 (m:Int)):=by rw[qAz PF.out];rfl
         have q3:wr.cell? ⟨w.heap.size+1+1,3,none⟩=some (.bool true):=by rw[qAz PF.out];rfl
         have q4:wr.cell? ⟨w.heap.size+1+1,4,none⟩=some (.int .i64 (nR:Int)):=by rw[qAz PF.out];rfl
         have q5:wr.cell? ⟨w.heap.size+1+1,5,none⟩=some (.slice au ups.length cu):=by rw[qAz PF.out];rfl
         have q6:wr.cell? ⟨w.heap.size+1+1,6,none⟩=some (.slice ad consts.length cd):=by rw[qAz PF.out];rfl
         have q7:wr.cell? ⟨w.heap.size+1+1,7,none⟩=some (.slice (some ⟨bi,oi,none⟩) q ci):=by rw[qAz PF.out];rfl
         have q8:wr.cell? ⟨w.heap.size+1+1,8,none⟩=some (.slice an named.length cn):=by rw[qAz PF.out];rfl
         by_cases hcy:TJ.Cyc E j
         ·go_wp2_with (go_at_call 35;refine (round_any ins E nR q j bi oi ci name line m nR true au ad an ups.length cu consts.length cd named.length cn _ HF.out.sil HF.out.lt HF.out.ok HF.out.ins k3 (by omega) (Nat.lt_of_lt_of_le hbi HBi2.out.size) (HLI.out.i.later HBi2.out)).mono ?_;rintro e w1 ⟨⟨bb,rfl,hbb⟩,hb1⟩;obtain rfl:bb=true:=hbb.2 hcy;clear q0 q1 q2 q3 q4 q5 q6 q7 q8 c0 hzo ho hx hbb)
          refine (fault_b _ _ _ _).mono ?_
          rintro e w9 ⟨rfl,hx⟩
          have B1':=qBz hx (qBz hb1 FL.out)
          have r0:w9.cell? ⟨w.heap.size+1,0,none⟩=some (.int .i64 0):=by rw[qAz B1'];rfl
          have r1:w9.cell? ⟨w.heap.size+1,1,none⟩=some (.int .i64 0):=by rw[qAz B1'];rfl
          have r2:w9.cell? ⟨w.heap.size+1,2,none⟩=some (.int .i64 0):=by rw[qAz B1'];rfl
          have z9:=qGz B1'
          have hz9:=(HBi2.out.trans (hb1.mono HBi2.out.size)).trans (hx.mono (HBi2.out.trans (hb1.mono HBi2.out.size)).size)
          clear B1' hx
          go_wp2_with fail
          refine bodyPost_ret (v:=.tuple #[.slice none 0 0,FV 14 (p:Int) (j:Int)]) (by simp[results,Tryz.results19,go_sem,r0,r1,r2]) rfl ⟨?_,?_⟩
          ·rw[HRok.out];exact .inl ⟨j,⟨HXx.out,hcy,HN.out⟩,rfl⟩
          ·exact ((hz9.setCell (p:=⟨w.heap.size+1,0,none⟩) (by simp) _).setCell (p:=⟨w.heap.size+1,1,none⟩) (by simp) _).setCell (p:=⟨w.heap.size+1,2,none⟩) (by simp) _
         ·have HN2:Hid (∀ b:Nat,b<j+1→(∃ x,(zs.map SR.o)[b]?=some (some x))→¬ TJ.Cyc E b):=fun b hb hx=>by
           by_cases e:b=j
           ·subst e;exact hcy
           ·exact HN.out b (by omega) hx
          go_wp2_with (go_at_call 35;refine (round_any ins E nR q j bi oi ci name line m nR true au ad an ups.length cu consts.length cd named.length cn _ HF.out.sil HF.out.lt HF.out.ok HF.out.ins k3 (by omega) (Nat.lt_of_lt_of_le hbi HBi2.out.size) (HLI.out.i.later HBi2.out)).mono ?_;rintro e w1 ⟨⟨bb,rfl,hbb⟩,hb1⟩;obtain rfl:bb=false:=by cases bb;rfl;exact absurd (hbb.1 rfl) hcy)
          have HB3:Hid _:=HBi.out.trans (hb1.mono HBi.out.size)
          go_roundw
          case rel=>exact ⟨j+1,by omega,by go_num,HB3,HN2⟩
          case measure=>simp[intOf];omega
       ·have hje:j=q:=by omega
        subst hje
        have r0:wr.cell? ⟨w.heap.size+1,0,none⟩=some (.int .i64 0):=by rw[qAz FL.out];rfl
        have r1:wr.cell? ⟨w.heap.size+1,1,none⟩=some (.int .i64 0):=by rw[qAz FL.out];rfl
        have r2:wr.cell? ⟨w.heap.size+1,2,none⟩=some (.int .i64 0):=by rw[qAz FL.out];rfl
        have y0:=qGz FL.out 0
        have y1:=qGz FL.out 1
        have y2:=qGz FL.out 2
        go_wp2_with fail
        refine bodyPost_ret (v:=.tuple #[.slice (some ⟨w.heap.size+1+1+1,0,none⟩) j j,FV 0 0 0]) (by simp[results,Tryz.results19,go_sem,r0,r1,r2]) rfl ⟨?_,?_⟩
        ·rw[HRok.out]
         refine .inr ⟨fun b hb=>?_,_,zs,rfl,?_,by omega,rfl⟩
         ·by_cases e:b<j
          ·exact HN.out b e hb
          ·obtain ⟨x,hx⟩:=hb
           rw[List.getElem?_eq_none (by simp;omega)] at hx
           cases hx
         ·exact ((SF.out.set_other FL.out (by decide) (by decide) (by decide) 0 _).set_other (qLz FL.out 0 _) (by decide) (by decide) (by decide) 1 _).set_other (qLz (qLz FL.out 0 _) 1 _) (by decide) (by decide) (by decide) 2 _
        ·exact ((HBi2.out.setCell (p:=⟨w.heap.size+1,0,none⟩) (by simp) _).setCell (p:=⟨w.heap.size+1,1,none⟩) (by simp) _).setCell (p:=⟨w.heap.size+1,2,none⟩) (by simp) _
end Go.Proofs.YtfejmalmnjmanaaGreatDoor
