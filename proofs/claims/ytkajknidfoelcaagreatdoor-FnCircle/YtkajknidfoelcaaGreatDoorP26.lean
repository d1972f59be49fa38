import Derived.Test.YtkajknidfoelcaaGreatDoorP25
import Derived.LaidEql
import Derived.Stop.Asserts
import Derived.RowKitTokens
set_option linter.unusedVariables false
set_option linter.unusedSimpArgs false
set_option maxRecDepth 20000
set_option maxHeartbeats 8000000
namespace Go.Proofs.YtkajknidfoelcaaGreatDoor
open Go.RowKit
theorem opt_parts {c:List FD} {k:Int} {p i:Nat} (hk:k≠0) (h:partsV c=(k,(p:Int),(i:Int))):optF (shapeV c)=some (k,(p:Int),(i:Int)):=by
 have h0:¬(partsV c).1=0:=by rw[h];exact hk
 rw[shape_parts h0,h]
 unfold optF
 rw[if_neg hk]
theorem opt_fns {c:List FD} (h:partsV c=(0,0,0)):optF (shapeV c)=optF (fnsV c):=by
 unfold shapeV;rw[if_pos (by rw[h])]
theorem ishape_any (a:Option Addr) (len cap:Nat) (xs:List FC) (w:World) (H0:CodeAt w a xs) (hl:xs.length=len) (hlay:LayAt w) :
  Calls Tryz.prog 22 #[.agg #[.slice a len cap]] w fun e w'=>e=.returned (EV (optF (shapeV (xs.map FC.d))))∧Below w.heap.size w w':=by
 have hlen:len≤1048576:=by rw[←hl];exact H0.len
 have H:Hid (CodeAt w a xs):=H0
 have HLY:Hid (LayAt w):=hlay
 have HL:Hid (xs.length=len):=hl
 obtain⟨cs,hcs⟩:∃cs,cs=xs.map FC.d:=⟨_,rfl⟩
 have HM:Hid (cs=xs.map FC.d):=hcs
 have HCL:Hid (cs.length=len):=by show cs.length=len;rw[hcs,List.length_map,hl]
 rw[←hcs]
 clear H0 hl hlay hcs
 by_cases hb:badSize cs
 ·have HR:Hid (optF (shapeV cs)=some (1,((0:Nat):Int),((0:Nat):Int))):=opt_parts (by omega) (parts_1 hb)
  go_enter Tryz.func22,Tryz.ntmps22
  go_wp2_with fail
  refine (isize_any a len cap xs _ (H.out.later (bw1 _ _)) HL.out false (by rw[←HM.out];simpa using hb)).mono ?_
  rintro e w1 ⟨rfl,hx⟩
  have hB:Below w.heap.size w w1:=(bw1 _ _).trans (hx.mono (by simp))
  clear hx
  go_wp2_with (go_at_call 30;refine (fat_any _ _ _ _).mono ?_;rintro e w' ⟨rfl,rfl⟩)
  go_ret
  exact⟨by rw[HR.out];rfl,hB⟩
 ·go_enter Tryz.func22,Tryz.ntmps22
  go_wp2_with fail
  refine (isize_any a len cap xs _ (H.out.later (bw1 _ _)) HL.out true (by rw[←HM.out];simpa using hb)).mono ?_
  rintro e w1 ⟨rfl,hx⟩
  have B0:Hid (w1.heap[w.heap.size]?=some (CO (.slice a len cap))):=blk_later hx (blk_new _ _)
  have hB:Below w.heap.size w w1:=(bw1 _ _).trans (hx.mono (by simp))
  clear hx
  have HB:Hid (¬badSize cs):=hb
  obtain⟨gk,hgk⟩:∃gk,gk=w1.heap.size:=⟨_,rfl⟩
  have BKn:Hid ((w1.alloc (.cells #[.func (Fn.func 31) #[] #[],.func (Fn.func 32) #[] #[],.func (Fn.func 33) #[] #[],.func (Fn.func 34) #[] #[]] 116)).heap[gk]?=some (.cells #[.func (Fn.func 31) #[] #[],.func (Fn.func 32) #[] #[],.func (Fn.func 33) #[] #[],.func (Fn.func 34) #[] #[]] 116)):=blk_newn hgk.symm _
  go_wp2_with fail
  rw[←hgk]
  clear hgk hb
  go_loopw [13] (fun i wr=>∃m:Nat,m≤4∧i=.int .i64 m∧Hid ((1≤m→fp hd0 cs 0=none)∧(2≤m→fp co0 cs 0=none)∧(3≤m→fp na0 cs 0=none)∧(4≤m→fp (in0 len) cs 0=none))∧Below w.heap.size w wr∧Hid (wr.heap[w.heap.size]?=some (CO (.slice a len cap)))∧Hid (wr.heap[gk]?=some (.cells #[.func (Fn.func 31) #[] #[],.func (Fn.func 32) #[] #[],.func (Fn.func 33) #[] #[],.func (Fn.func 34) #[] #[]] 116))) (fun i _=>4-(intOf i).toNat)
  case atStart=>exact⟨0,by omega,rfl,⟨fun h=>absurd h (by omega),fun h=>absurd h (by omega),fun h=>absurd h (by omega),fun h=>absurd h (by omega)⟩,below_alloc hB _,blk_old B0.out _,BKn⟩
  case round =>
   clear hB B0 BKn
   obtain⟨m,hm,rfl,HF,hB,B0,BK⟩:=hrel
   have a0:wr.cell? ⟨w.heap.size,0,none⟩=some (.slice a len cap):=by rw[blk_cell B0.out];rfl
   by_cases k1:m<4
   ·have hmc:m=0∨m=1∨m=2∨m=3:=by omega
    rcases hmc with rfl | rfl | rfl | rfl
    ·have fc:wr.cell? ⟨gk,0,none⟩=some (.func (Fn.func 31) #[] #[]):=by rw[blk_cell BK.out];rfl
     go_wp2_with fail
     clear fc a0
     rw[show (((0:Nat)):Int)=0 from rfl]
     go_loopw [20] (fun i wr=>∃p:Nat,p≤len∧i=.int .i64 p∧Hid (fp hd0 ((xs.drop p).map FC.d) p=fp hd0 cs 0)∧Below w.heap.size w wr∧Hid (wr.heap[w.heap.size]?=some (CO (.slice a len cap)))∧Hid (wr.heap[gk]?=some (.cells #[.func (Fn.func 31) #[] #[],.func (Fn.func 32) #[] #[],.func (Fn.func 33) #[] #[],.func (Fn.func 34) #[] #[]] 116))) (fun i _=>len-(intOf i).toNat)
     case atStart=>exact⟨0,Nat.zero_le _,rfl,by show fp hd0 ((xs.drop 0).map FC.d) 0=_;rw[HM.out,List.drop_zero],hB,B0,BK⟩
     case round =>
      clear hB B0 BK
      obtain⟨p,hp,rfl,HG,hB,B0,BK⟩:=hrel
      by_cases k2:p<len
      ·have a0:wr.cell? ⟨w.heap.size,0,none⟩=some (.slice a len cap):=by rw[blk_cell B0.out];rfl
       obtain⟨f,hf⟩:∃f,xs[p]?=some f:=⟨xs[p]'(by rw[HL.out];exact k2),by simp⟩
       obtain⟨b,off,rfl,hb,hc⟩:=H.out.nine hf
       have hok:=H.out.ok f (List.mem_of_getElem? hf)
       have HLI:Hid (f.lie w):=H.out.lie f (List.mem_of_getElem? hf)
       have HD:Hid ((match hd0 p f.d with | some j=>some (p,j) | none=>fp hd0 ((xs.drop (p+1)).map FC.d) (p+1))=fp hd0 cs 0):=by have h:=HG.out;rw[fp_drop _ hf]at h;exact h
       clear HG hf hb
       cases hh:hd0 p f.d with
       | some i =>
        have HR:Hid (optF (shapeV cs)=some (2,(p:Int),(i:Int))):=opt_parts (by omega) (parts_2 HB.out (by rw[←HD.out,hh]))
        go_wp2_with fail
        refine (ihead_any b off len cap p f _ k2 hlen (hc.later hB) hok).mono ?_
        rw[ckf_some hh,show EV (some ((2:Int),(p:Int),(i:Int)))=.iface 82 (FV 2 p i) from rfl]
        rintro e w2 ⟨rfl,hx⟩
        replace hB:=hB.trans (hx.mono hB.size)
        clear hx a0
        go_wp2_with fail
        go_ret
        exact⟨by rw[HR.out];rfl,hB⟩
       | none =>
        have HG1:Hid (fp hd0 ((xs.drop (p+1)).map FC.d) (p+1)=fp hd0 cs 0):=by have h:=HD.out;rw[hh]at h;exact h
        go_wp2_with fail
        refine (ihead_any b off len cap p f _ k2 hlen (hc.later hB) hok).mono ?_
        rw[ckf_none hh,show EV none=.nilIface from rfl]
        rintro e w2 ⟨rfl,hx⟩
        replace hB:=hB.trans (hx.mono hB.size)
        replace B0:Hid _:=blk_later hx B0.out
        replace BK:Hid _:=blk_later hx BK.out
        clear hx a0
        go_wp2_with fail
        go_roundw
        case rel=>exact⟨p+1,by omega,by go_num,HG1,hB,B0,BK⟩
        case measure=>simp[intOf];omega
      ·have hn:fp hd0 cs 0=none:=by rw[←HG.out];exact drop_end (by rw[HL.out];omega) _
       have HF1:Hid ((1≤0+1→fp hd0 cs 0=none)∧(2≤0+1→fp co0 cs 0=none)∧(3≤0+1→fp na0 cs 0=none)∧(4≤0+1→fp (in0 len) cs 0=none)):=by
        refine⟨fun h=>?_,fun h=>?_,fun h=>?_,fun h=>?_⟩
        ·exact hn
        ·exact absurd h (by omega)
        ·exact absurd h (by omega)
        ·exact absurd h (by omega)
       clear HG HF hn
       go_wp2_with fail
       go_roundw
       case rel=>exact⟨0+1,by omega,by go_num,HF1,hB,B0,BK⟩
       case measure=>simp[intOf]
    ·have fc:wr.cell? ⟨gk,1,none⟩=some (.func (Fn.func 32) #[] #[]):=by rw[blk_cell BK.out];rfl
     go_wp2_with fail
     clear fc a0
     rw[show (((1:Nat)):Int)=1 from rfl]
     go_loopw [20] (fun i wr=>∃p:Nat,p≤len∧i=.int .i64 p∧Hid (fp co0 ((xs.drop p).map FC.d) p=fp co0 cs 0)∧Below w.heap.size w wr∧Hid (wr.heap[w.heap.size]?=some (CO (.slice a len cap)))∧Hid (wr.heap[gk]?=some (.cells #[.func (Fn.func 31) #[] #[],.func (Fn.func 32) #[] #[],.func (Fn.func 33) #[] #[],.func (Fn.func 34) #[] #[]] 116))) (fun i _=>len-(intOf i).toNat)
     case atStart=>exact⟨0,Nat.zero_le _,rfl,by show fp co0 ((xs.drop 0).map FC.d) 0=_;rw[HM.out,List.drop_zero],hB,B0,BK⟩
     case round =>
      clear hB B0 BK
      obtain⟨p,hp,rfl,HG,hB,B0,BK⟩:=hrel
      by_cases k2:p<len
      ·have a0:wr.cell? ⟨w.heap.size,0,none⟩=some (.slice a len cap):=by rw[blk_cell B0.out];rfl
       obtain⟨f,hf⟩:∃f,xs[p]?=some f:=⟨xs[p]'(by rw[HL.out];exact k2),by simp⟩
       obtain⟨b,off,rfl,hb,hc⟩:=H.out.nine hf
       have hok:=H.out.ok f (List.mem_of_getElem? hf)
       have HLI:Hid (f.lie w):=H.out.lie f (List.mem_of_getElem? hf)
       have HD:Hid ((match co0 p f.d with | some j=>some (p,j) | none=>fp co0 ((xs.drop (p+1)).map FC.d) (p+1))=fp co0 cs 0):=by have h:=HG.out;rw[fp_drop _ hf]at h;exact h
       clear HG hf hb
       cases hh:co0 p f.d with
       | some i =>
        have HR:Hid (optF (shapeV cs)=some (3,(p:Int),(i:Int))):=opt_parts (by omega) (parts_3 HB.out (HF.out.1 (by omega)) (by rw[←HD.out,hh]))
        go_wp2_with fail
        refine (ickc_any b off len cap p f _ k2 hlen (hc.later hB) hok (HLI.out.later hB)).mono ?_
        rw[ckf_some hh,show EV (some ((3:Int),(p:Int),(i:Int)))=.iface 82 (FV 3 p i) from rfl]
        rintro e w2 ⟨rfl,hx⟩
        replace hB:=hB.trans (hx.mono hB.size)
        clear hx a0
        go_wp2_with fail
        go_ret
        exact⟨by rw[HR.out];rfl,hB⟩
       | none =>
        have HG1:Hid (fp co0 ((xs.drop (p+1)).map FC.d) (p+1)=fp co0 cs 0):=by have h:=HD.out;rw[hh]at h;exact h
        go_wp2_with fail
        refine (ickc_any b off len cap p f _ k2 hlen (hc.later hB) hok (HLI.out.later hB)).mono ?_
        rw[ckf_none hh,show EV none=.nilIface from rfl]
        rintro e w2 ⟨rfl,hx⟩
        replace hB:=hB.trans (hx.mono hB.size)
        replace B0:Hid _:=blk_later hx B0.out
        replace BK:Hid _:=blk_later hx BK.out
        clear hx a0
        go_wp2_with fail
        go_roundw
        case rel=>exact⟨p+1,by omega,by go_num,HG1,hB,B0,BK⟩
        case measure=>simp[intOf];omega
      ·have hn:fp co0 cs 0=none:=by rw[←HG.out];exact drop_end (by rw[HL.out];omega) _
       have HF1:Hid ((1≤1+1→fp hd0 cs 0=none)∧(2≤1+1→fp co0 cs 0=none)∧(3≤1+1→fp na0 cs 0=none)∧(4≤1+1→fp (in0 len) cs 0=none)):=by
        refine⟨fun h=>?_,fun h=>?_,fun h=>?_,fun h=>?_⟩
        ·exact HF.out.1 (by omega)
        ·exact hn
        ·exact absurd h (by omega)
        ·exact absurd h (by omega)
       clear HG HF hn
       go_wp2_with fail
       go_roundw
       case rel=>exact⟨1+1,by omega,by go_num,HF1,hB,B0,BK⟩
       case measure=>simp[intOf]
    ·have fc:wr.cell? ⟨gk,2,none⟩=some (.func (Fn.func 33) #[] #[]):=by rw[blk_cell BK.out];rfl
     go_wp2_with fail
     clear fc a0
     rw[show (((2:Nat)):Int)=2 from rfl]
     go_loopw [20] (fun i wr=>∃p:Nat,p≤len∧i=.int .i64 p∧Hid (fp na0 ((xs.drop p).map FC.d) p=fp na0 cs 0)∧Below w.heap.size w wr∧Hid (wr.heap[w.heap.size]?=some (CO (.slice a len cap)))∧Hid (wr.heap[gk]?=some (.cells #[.func (Fn.func 31) #[] #[],.func (Fn.func 32) #[] #[],.func (Fn.func 33) #[] #[],.func (Fn.func 34) #[] #[]] 116))) (fun i _=>len-(intOf i).toNat)
     case atStart=>exact⟨0,Nat.zero_le _,rfl,by show fp na0 ((xs.drop 0).map FC.d) 0=_;rw[HM.out,List.drop_zero],hB,B0,BK⟩
     case round =>
      clear hB B0 BK
      obtain⟨p,hp,rfl,HG,hB,B0,BK⟩:=hrel
      by_cases k2:p<len
      ·have a0:wr.cell? ⟨w.heap.size,0,none⟩=some (.slice a len cap):=by rw[blk_cell B0.out];rfl
       obtain⟨f,hf⟩:∃f,xs[p]?=some f:=⟨xs[p]'(by rw[HL.out];exact k2),by simp⟩
       obtain⟨b,off,rfl,hb,hc⟩:=H.out.nine hf
       have hok:=H.out.ok f (List.mem_of_getElem? hf)
       have HLI:Hid (f.lie w):=H.out.lie f (List.mem_of_getElem? hf)
       obtain⟨hr0,hr1⟩:=regs_of (HF.out.1 (by omega)) (show cs[p]?=some f.d by rw[HM.out];exact map_at hf)
       have HD:Hid ((match na0 p f.d with | some j=>some (p,j) | none=>fp na0 ((xs.drop (p+1)).map FC.d) (p+1))=fp na0 cs 0):=by have h:=HG.out;rw[fp_drop _ hf]at h;exact h
       clear HG hf hb
       cases hh:na0 p f.d with
       | some i =>
        have HR:Hid (optF (shapeV cs)=some (4,(p:Int),(i:Int))):=opt_parts (by omega) (parts_4 HB.out (HF.out.1 (by omega)) (HF.out.2.1 (by omega)) (by rw[←HD.out,hh]))
        go_wp2_with fail
        refine (ickn_any b off len cap p f _ k2 hlen (hc.later hB) hok (HLI.out.later hB) hr0 hr1).mono ?_
        rw[ckf_some hh,show EV (some ((4:Int),(p:Int),(i:Int)))=.iface 82 (FV 4 p i) from rfl]
        rintro e w2 ⟨rfl,hx⟩
        replace hB:=hB.trans (hx.mono hB.size)
        clear hx a0
        go_wp2_with fail
        go_ret
        exact⟨by rw[HR.out];rfl,hB⟩
       | none =>
        have HG1:Hid (fp na0 ((xs.drop (p+1)).map FC.d) (p+1)=fp na0 cs 0):=by have h:=HD.out;rw[hh]at h;exact h
        go_wp2_with fail
        refine (ickn_any b off len cap p f _ k2 hlen (hc.later hB) hok (HLI.out.later hB) hr0 hr1).mono ?_
        rw[ckf_none hh,show EV none=.nilIface from rfl]
        rintro e w2 ⟨rfl,hx⟩
        replace hB:=hB.trans (hx.mono hB.size)
        replace B0:Hid _:=blk_later hx B0.out
        replace BK:Hid _:=blk_later hx BK.out
        clear hx a0
        go_wp2_with fail
        go_roundw
        case rel=>exact⟨p+1,by omega,by go_num,HG1,hB,B0,BK⟩
        case measure=>simp[intOf];omega
      ·have hn:fp na0 cs 0=none:=by rw[←HG.out];exact drop_end (by rw[HL.out];omega) _
       have HF1:Hid ((1≤2+1→fp hd0 cs 0=none)∧(2≤2+1→fp co0 cs 0=none)∧(3≤2+1→fp na0 cs 0=none)∧(4≤2+1→fp (in0 len) cs 0=none)):=by
        refine⟨fun h=>?_,fun h=>?_,fun h=>?_,fun h=>?_⟩
        ·exact HF.out.1 (by omega)
        ·exact HF.out.2.1 (by omega)
        ·exact hn
        ·exact absurd h (by omega)
       clear HG HF hn
       go_wp2_with fail
       go_roundw
       case rel=>exact⟨2+1,by omega,by go_num,HF1,hB,B0,BK⟩
       case measure=>simp[intOf]
    ·have fc:wr.cell? ⟨gk,3,none⟩=some (.func (Fn.func 34) #[] #[]):=by rw[blk_cell BK.out];rfl
     go_wp2_with fail
     clear fc a0
     rw[show (((3:Nat)):Int)=3 from rfl]
     go_loopw [20] (fun i wr=>∃p:Nat,p≤len∧i=.int .i64 p∧Hid (fp (in0 len) ((xs.drop p).map FC.d) p=fp (in0 len) cs 0)∧Below w.heap.size w wr∧Hid (wr.heap[w.heap.size]?=some (CO (.slice a len cap)))∧Hid (wr.heap[gk]?=some (.cells #[.func (Fn.func 31) #[] #[],.func (Fn.func 32) #[] #[],.func (Fn.func 33) #[] #[],.func (Fn.func 34) #[] #[]] 116))) (fun i _=>len-(intOf i).toNat)
     case atStart=>exact⟨0,Nat.zero_le _,rfl,by show fp (in0 len) ((xs.drop 0).map FC.d) 0=_;rw[HM.out,List.drop_zero],hB,B0,BK⟩
     case round =>
      clear hB B0 BK
      obtain⟨p,hp,rfl,HG,hB,B0,BK⟩:=hrel
      by_cases k2:p<len
      ·have a0:wr.cell? ⟨w.heap.size,0,none⟩=some (.slice a len cap):=by rw[blk_cell B0.out];rfl
       obtain⟨f,hf⟩:∃f,xs[p]?=some f:=⟨xs[p]'(by rw[HL.out];exact k2),by simp⟩
       obtain⟨b,off,rfl,hb,hc⟩:=H.out.nine hf
       have hok:=H.out.ok f (List.mem_of_getElem? hf)
       have HLI:Hid (f.lie w):=H.out.lie f (List.mem_of_getElem? hf)
       obtain⟨hr0,hr1⟩:=regs_of (HF.out.1 (by omega)) (show cs[p]?=some f.d by rw[HM.out];exact map_at hf)
       have HD:Hid ((match (in0 len) p f.d with | some j=>some (p,j) | none=>fp (in0 len) ((xs.drop (p+1)).map FC.d) (p+1))=fp (in0 len) cs 0):=by have h:=HG.out;rw[fp_drop _ hf]at h;exact h
       clear HG hf hb
       cases hh:(in0 len) p f.d with
       | some i =>
        have HR:Hid (optF (shapeV cs)=some (5,(p:Int),(i:Int))):=opt_parts (by omega) (parts_5 HB.out (HF.out.1 (by omega)) (HF.out.2.1 (by omega)) (HF.out.2.2.1 (by omega)) (by rw[HCL.out,←HD.out,hh]))
        go_wp2_with fail
        refine (icki_any b off len cap p f _ k2 hlen (hc.later hB) hok (HLI.out.later hB) hr0 hr1 (HLY.out.later hB)).mono ?_
        rw[ckf_some hh,show EV (some ((5:Int),(p:Int),(i:Int)))=.iface 82 (FV 5 p i) from rfl]
        rintro e w2 ⟨rfl,hx⟩
        replace hB:=hB.trans (hx.mono hB.size)
        clear hx a0
        go_wp2_with fail
        go_ret
        exact⟨by rw[HR.out];rfl,hB⟩
       | none =>
        have HG1:Hid (fp (in0 len) ((xs.drop (p+1)).map FC.d) (p+1)=fp (in0 len) cs 0):=by have h:=HD.out;rw[hh]at h;exact h
        go_wp2_with fail
        refine (icki_any b off len cap p f _ k2 hlen (hc.later hB) hok (HLI.out.later hB) hr0 hr1 (HLY.out.later hB)).mono ?_
        rw[ckf_none hh,show EV none=.nilIface from rfl]
        rintro e w2 ⟨rfl,hx⟩
        replace hB:=hB.trans (hx.mono hB.size)
        replace B0:Hid _:=blk_later hx B0.out
        replace BK:Hid _:=blk_later hx BK.out
        clear hx a0
        go_wp2_with fail
        go_roundw
        case rel=>exact⟨p+1,by omega,by go_num,HG1,hB,B0,BK⟩
        case measure=>simp[intOf];omega
      ·have hn:fp (in0 len) cs 0=none:=by rw[←HG.out];exact drop_end (by rw[HL.out];omega) _
       have HF1:Hid ((1≤3+1→fp hd0 cs 0=none)∧(2≤3+1→fp co0 cs 0=none)∧(3≤3+1→fp na0 cs 0=none)∧(4≤3+1→fp (in0 len) cs 0=none)):=by
        refine⟨fun h=>?_,fun h=>?_,fun h=>?_,fun h=>?_⟩
        ·exact HF.out.1 (by omega)
        ·exact HF.out.2.1 (by omega)
        ·exact HF.out.2.2.1 (by omega)
        ·exact hn
       clear HG HF hn
       go_wp2_with fail
       go_roundw
       case rel=>exact⟨3+1,by omega,by go_num,HF1,hB,B0,BK⟩
       case measure=>simp[intOf]
   ·have hm4:m=4:=by omega
    subst hm4
    obtain⟨h2,h3,h4,h5⟩:=HF.out
    have HPZ:Hid (partsV cs=(0,0,0)):=parts_0 HB.out (h2 (by omega)) (h3 (by omega)) (h4 (by omega)) (by rw[HCL.out];exact h5 (by omega))
    clear HF h2 h3 h4 h5
    go_wp2_with fail
    refine (ifns_any a len cap xs _ (H.out.later hB) HL.out (by rw[←HM.out,HPZ.out])).mono ?_
    rw[←HM.out,←opt_fns HPZ.out]
    rintro e w2 ⟨rfl,hx⟩
    replace hB:=hB.trans (hx.mono hB.size)
    clear hx a0
    go_wp2_with fail
    go_ret
    exact⟨rfl,hB⟩
end Go.Proofs.YtkajknidfoelcaaGreatDoor
namespace Go.Proofs.YtkajknidfoelcaaGreatDoor
open Go.RowKit Go.Extern.Stop Go.Stop Go.Extern
theorem as_nil (t:Value) (w:World) :
  Calls Tryz.prog 24 #[.nilIface,t] w fun e w'=>e=.returned (.bool false)∧w'=w:=by
 go_enter Tryz.func24,Tryz.ntmps24
 go_wp2
 go_ret
 exact⟨rfl,rfl⟩
theorem As.valueOfP (t:Addr) (w:World):(ReflectliteValue.unpack (.iface 84 (.pointer (some t)))).run Tryz.prog w
  = .ok (.agg #[.pointer (some ⟨12,84,none⟩),.pointer (some ⟨w.heap.size,0,none⟩),.int .u64 150]) (w.alloc (.cells #[.pointer (some t)] 84)):=by kernel_rfl
theorem As.typeP (a:Addr) (w:World):(ReflectliteValue.methodAny (ReflectliteValue.valueError "reflectlite.Value.Type" 0) (fun t _ _ _=>ReflectliteType.toType t) #[.agg #[.pointer (some ⟨12,84,none⟩),.pointer (some a),.int .u64 150]]).run Tryz.prog w
  = .ok (.iface 192 (.agg #[.pointer (some ⟨12,84,none⟩)])) w:=by kernel_rfl
theorem As.methodKind (d:Nat) (h:Value) (w:World):(Go.method (d+2) 192 (.agg #[h]) "Kind").run Tryz.prog w=.ok (378,h) w:=by kernel_rfl
theorem As.kindP (w:World):((ReflectliteType.abiMethod fun t=>Functor.map (fun a:Nat=>Value.int IntKind.u8 (a:Int)) (Rtype.kind t)) #[.pointer (some ⟨12,84,none⟩)]).run Tryz.prog w=.ok (.int .u8 22) w:=by kernel_rfl
theorem As.kindT (w:World):((ReflectliteType.abiMethod fun t=>Functor.map (fun a:Nat=>Value.int IntKind.u8 (a:Int)) (Rtype.kind t)) #[.pointer (some ⟨12,82,none⟩)]).run Tryz.prog w=.ok (.int .u8 25) w:=by kernel_rfl
theorem rlm (z:Sem Value) (f:TypeId→Addr→Nat→Nat→Sem Value) (v:Value) :
  ReflectliteValue.method z f #[v]=(do match ←ReflectliteValue.parts v with | none=>z | some (t,a,fl)=>f t a fl (fl % 32)):=rfl
theorem As.partsP (a:Addr) (w:World):(ReflectliteValue.parts (.agg #[.pointer (some ⟨12,84,none⟩),.pointer (some a),.int .u64 150])).run Tryz.prog w=.ok (some (84,a,150)) w:=by kernel_rfl
theorem As.isNilP (a p:Addr) (W:World) (ha:W.cell? a=some (.pointer (some p))) :
  (ReflectliteValue.method (ReflectliteValue.valueError "reflectlite.Value.IsNil" 0) ReflectliteValue.isNil #[.agg #[.pointer (some ⟨12,84,none⟩),.pointer (some a),.int .u64 150]]).run Tryz.prog W=.ok (.bool false) W:=by
 rw[rlm]
 simp only[Sem.run_bind,As.partsP,Result.andThen]
 simp[ReflectliteValue.isNil,loadVar,isAgg,underlying,Tryz.underlying84,ha,Result.andThen]
theorem As.methodElem (d:Nat) (h:Value) (w:World):(Go.method (d+2) 192 (.agg #[h]) "Elem").run Tryz.prog w=.ok (390,.agg #[h]) w:=by kernel_rfl
theorem As.methodImplements (d:Nat) (h:Value) (w:World):(Go.method (d+2) 192 (.agg #[h]) "Implements").run Tryz.prog w=.ok (391,.agg #[h]) w:=by kernel_rfl
theorem As.methodAssignableTo (d:Nat) (h:Value) (w:World):(Go.method (d+2) 192 (.agg #[h]) "AssignableTo").run Tryz.prog w=.ok (388,.agg #[h]) w:=by kernel_rfl
theorem As.elemP (w:World):(ReflectliteType.method ReflectliteType.elem #[.agg #[.pointer (some ⟨12,84,none⟩)]]).run Tryz.prog w=.ok (.iface 192 (.agg #[.pointer (some ⟨12,82,none⟩)])) w:=by kernel_rfl
theorem As.implementsT (w:World):(ReflectliteType.relation "Implements" ReflectliteType.implements_ #[.agg #[.pointer (some ⟨12,82,none⟩)],.iface 192 (.agg #[.pointer (some ⟨12,65,none⟩)])]).run Tryz.prog w=.ok (.bool true) w:=by kernel_rfl
theorem As.typeOfT (v:Value) (w:World):(ReflectliteType.typeOf #[.iface 82 v]).run Tryz.prog w=.ok (.iface 192 (.agg #[.pointer (some ⟨12,82,none⟩)])) w:=by kernel_rfl
theorem As.assignableT (w:World):(ReflectliteType.relation "AssignableTo" ReflectliteType.assignableTo #[.agg #[.pointer (some ⟨12,82,none⟩)],.iface 192 (.agg #[.pointer (some ⟨12,82,none⟩)])]).run Tryz.prog w=.ok (.bool true) w:=by kernel_rfl
theorem As.valueOfT (c p i:Int) (w:World):(ReflectliteValue.unpack (.iface 82 (FV c p i))).run Tryz.prog w
  = .ok (.agg #[.pointer (some ⟨12,82,none⟩),.pointer (some ⟨w.heap.size,0,none⟩),.int .u64 153]) (w.alloc (.cells #[.int .i64 c,.int .i64 p,.int .i64 i] 82)):=by kernel_rfl
theorem As.elemOfP (w:World):(Rtype.elem? 84).run Tryz.prog w=.ok (some 82) w:=by kernel_rfl
theorem As.mkT (p:Addr) (w:World):(ReflectliteValue.mk 82 p ReflectliteValue.flagAddr).run Tryz.prog w=.ok (.agg #[.pointer (some ⟨12,82,none⟩),.pointer (some p),.int .u64 409]) w:=by kernel_rfl
theorem As.elemVP (a p:Addr) (W:World) (ha:W.cell? a=some (.pointer (some p))) :
  (ReflectliteValue.method (ReflectliteValue.valueError "reflectlite.Value.Elem" 0) ReflectliteValue.elem #[.agg #[.pointer (some ⟨12,84,none⟩),.pointer (some a),.int .u64 150]]).run Tryz.prog W
   = .ok (.agg #[.pointer (some ⟨12,82,none⟩),.pointer (some p),.int .u64 409]) W:=by
 rw[rlm]
 simp only[Sem.run_bind,As.partsP,Result.andThen]
 simp[ReflectliteValue.elem,loadVar,isAgg,underlying,Tryz.underlying84,ha,Result.andThen,As.elemOfP,As.mkT]
theorem As.partsTa (a:Addr) (w:World):(ReflectliteValue.parts (.agg #[.pointer (some ⟨12,82,none⟩),.pointer (some a),.int .u64 409])).run Tryz.prog w=.ok (some (82,a,409)) w:=by kernel_rfl
theorem As.partsT (a:Addr) (w:World):(ReflectliteValue.parts (.agg #[.pointer (some ⟨12,82,none⟩),.pointer (some a),.int .u64 153])).run Tryz.prog w=.ok (some (82,a,153)) w:=by kernel_rfl
theorem As.directT (w:World):(Rtype.directlyAssignable 82 82).run Tryz.prog w=.ok true w:=by kernel_rfl
theorem As.load3 (b:Nat) (c p i:Value) (W:World) (hb0:W.cell? ⟨b,0,none⟩=some c) (hb1:W.cell? ⟨b,1,none⟩=some p) (hb2:W.cell? ⟨b,2,none⟩=some i):(loadCells ⟨b,0,none⟩ 3).run Tryz.prog W=.ok #[c,p,i] W:=by
 simp[loadCells,loadCellsFrom,Sem.run_bind,Addr.add,hb0,hb1,hb2,Result.andThen]
theorem As.store3 (tb:Nat) (c p i:Int) (o0 o1 o2:Value) (W:World) (ht0:W.cell? ⟨tb,0,none⟩=some o0) (ht1:W.cell? ⟨tb,1,none⟩=some o1) (ht2:W.cell? ⟨tb,2,none⟩=some o2) (hf:∀j,W.frozen? ⟨tb,j,none⟩=false) :
  (storeCells ⟨tb,0,none⟩ [.int .i64 c,.int .i64 p,.int .i64 i]).run Tryz.prog W=.ok () (((W.setCell ⟨tb,0,none⟩ (.int .i64 c)).setCell ⟨tb,1,none⟩ (.int .i64 p)).setCell ⟨tb,2,none⟩ (.int .i64 i)):=by
 simp[storeCells,Addr.add,go_sem,ht0,ht1,ht2,hf]
theorem As.setT (tb b:Nat) (c p i:Int) (o0 o1 o2:Value) (W:World) (hb0:W.cell? ⟨b,0,none⟩=some (.int .i64 c)) (hb1:W.cell? ⟨b,1,none⟩=some (.int .i64 p)) (hb2:W.cell? ⟨b,2,none⟩=some (.int .i64 i)) (ht0:W.cell? ⟨tb,0,none⟩=some o0) (ht1:W.cell? ⟨tb,1,none⟩=some o1) (ht2:W.cell? ⟨tb,2,none⟩=some o2) (hf:∀j,W.frozen? ⟨tb,j,none⟩=false) :
  (ReflectliteValue.set #[.agg #[.pointer (some ⟨12,82,none⟩),.pointer (some ⟨tb,0,none⟩),.int .u64 409],.agg #[.pointer (some ⟨12,82,none⟩),.pointer (some ⟨b,0,none⟩),.int .u64 153]]).run Tryz.prog W
   = .ok (.tuple #[]) (((W.setCell ⟨tb,0,none⟩ (.int .i64 c)).setCell ⟨tb,1,none⟩ (.int .i64 p)).setCell ⟨tb,2,none⟩ (.int .i64 i)):=by
 change (Bind.bind (ReflectliteValue.parts (.agg #[.pointer (some ⟨12,82,none⟩),.pointer (some ⟨tb,0,none⟩),.int .u64 409])) fun r=>Bind.bind (ReflectliteValue.parts (.agg #[.pointer (some ⟨12,82,none⟩),.pointer (some ⟨b,0,none⟩),.int .u64 153])) _).run Tryz.prog W=_
 simp only[Sem.run_bind,As.partsTa,As.partsT,Result.andThen]
 simp[ReflectliteValue.flagAddr,loadVar,isAgg,underlying,Tryz.underlying82,As.load3 b _ _ _ W hb0 hb1 hb2,Result.andThen,As.directT,storeVar,Value.cells,As.store3 tb c p i o0 o1 o2 W ht0 ht1 ht2 hf]
abbrev As.P1 (tb:Nat):Obj:=.cells #[.pointer (some ⟨tb,0,none⟩)] 84
abbrev As.V1 (n:Nat):Obj:=.cells #[.pointer (some ⟨12,84,none⟩),.pointer (some ⟨n,0,none⟩),.int .u64 150] 129
abbrev As.T1 (c p i:Int):Obj:=.cells #[.int .i64 c,.int .i64 p,.int .i64 i] 82
theorem as_hit (tb:Nat) (c p i:Int) (o0 o1 o2:Value) (w:World) (hg:w.cell? ⟨0,0,none⟩=some (.iface 192 (.agg #[.pointer (some ⟨12,65,none⟩)]))) (ht0:w.cell? ⟨tb,0,none⟩=some o0) (ht1:w.cell? ⟨tb,1,none⟩=some o1) (ht2:w.cell? ⟨tb,2,none⟩=some o2) (hf:∀j,w.frozen? ⟨tb,j,none⟩=false) :
  Calls Tryz.prog 24 #[.iface 82 (FV c p i),.iface 84 (.pointer (some ⟨tb,0,none⟩))] w fun ev w'=>ev=.returned (.bool true)∧w'=((((((w.alloc (As.P1 tb)).alloc (As.V1 w.heap.size)).alloc (As.V1 w.heap.size)).alloc (As.T1 c p i)).setCell ⟨tb,0,none⟩ (.int .i64 c)).setCell ⟨tb,1,none⟩ (.int .i64 p)).setCell ⟨tb,2,none⟩ (.int .i64 i):=by
 have h6:=@run_callFunc_extern Tryz.prog 41 _ (fun args=>ReflectliteValue.unpack (args.getD 0 (.tuple #[]))) Tryz.func41 (by kernel_rfl) (by kernel_rfl) (by kernel_rfl) (by kernel_rfl)
 have h7:=@run_callFunc_extern Tryz.prog 42 _ (ReflectliteValue.methodAny (ReflectliteValue.valueError "reflectlite.Value.Type" 0) (fun t _ _ _=>ReflectliteType.toType t)) Tryz.func42 (by kernel_rfl) (by kernel_rfl) (by kernel_rfl) (by kernel_rfl)
 have h8:=@run_callFunc_extern Tryz.prog 43 _ (ReflectliteValue.method (ReflectliteValue.valueError "reflectlite.Value.IsNil" 0) ReflectliteValue.isNil) Tryz.func43 (by kernel_rfl) (by kernel_rfl) (by kernel_rfl) (by kernel_rfl)
 have h27:=@run_callFunc_extern Tryz.prog 378 _ (ReflectliteType.abiMethod fun t=>do pure (.int .u8 (←Rtype.kind t))) Tryz.func378 (by kernel_rfl) (by kernel_rfl) (by kernel_rfl) (by kernel_rfl)
 have h37:=@run_callFunc_extern Tryz.prog 390 _ (ReflectliteType.method ReflectliteType.elem) Tryz.func390 (by kernel_rfl) (by kernel_rfl) (by kernel_rfl) (by kernel_rfl)
 have h38:=@run_callFunc_extern Tryz.prog 391 _ (ReflectliteType.relation "Implements" ReflectliteType.implements_) Tryz.func391 (by kernel_rfl) (by kernel_rfl) (by kernel_rfl) (by kernel_rfl)
 have h10:=@run_callFunc_extern Tryz.prog 75 _ ReflectliteType.typeOf Tryz.func75 (by kernel_rfl) (by kernel_rfl) (by kernel_rfl) (by kernel_rfl)
 have h35:=@run_callFunc_extern Tryz.prog 388 _ (ReflectliteType.relation "AssignableTo" ReflectliteType.assignableTo) Tryz.func388 (by kernel_rfl) (by kernel_rfl) (by kernel_rfl) (by kernel_rfl)
 have h11:=@run_callFunc_extern Tryz.prog 76 _ (ReflectliteValue.method (ReflectliteValue.valueError "reflectlite.Value.Elem" 0) ReflectliteValue.elem) Tryz.func76 (by kernel_rfl) (by kernel_rfl) (by kernel_rfl) (by kernel_rfl)
 have h12:=@run_callFunc_extern Tryz.prog 77 _ ReflectliteValue.set Tryz.func77 (by kernel_rfl) (by kernel_rfl) (by kernel_rfl) (by kernel_rfl)
 have tO:=As.typeOfT
 have mA:=As.methodAssignableTo
 have a25:=As.assignableT
 have v25:=As.valueOfT
 have f6:=As.valueOfP
 have f7:=As.typeP
 have mK:=As.methodKind
 have mE:=As.methodElem
 have mI:=As.methodImplements
 have k27:=As.kindP
 have k25:=As.kindT
 have e27:=As.elemP
 have i25:=As.implementsT
 have b2:=bw2 w (As.P1 tb) (As.V1 w.heap.size)
 have b3:=bw3 w (As.P1 tb) (As.V1 w.heap.size) (As.V1 w.heap.size)
 have b4:=below_alloc b3 (As.T1 c p i)
 have n8:=As.isNilP ⟨w.heap.size,0,none⟩ ⟨tb,0,none⟩ ((w.alloc (As.P1 tb)).alloc (As.V1 w.heap.size)) (by rw[blk_cell (blk_old (blk_new _ _) _)];rfl)
 have hg2:((w.alloc (As.P1 tb)).alloc (As.V1 w.heap.size)).cell? ⟨0,0,none⟩=some (.iface 192 (.agg #[.pointer (some ⟨12,65,none⟩)])):=cell_later b2 hg
 have el:=As.elemVP ⟨w.heap.size,0,none⟩ ⟨tb,0,none⟩ (((w.alloc (As.P1 tb)).alloc (As.V1 w.heap.size)).alloc (As.V1 w.heap.size)) (by rw[blk_cell (blk_old (blk_old (blk_new _ _) _) _)];rfl)
 have htl:tb<w.heap.size:=World.block_lt_of_cell? _ _ ht0
 have hfz:∀j,((((w.alloc (As.P1 tb)).alloc (As.V1 w.heap.size)).alloc (As.V1 w.heap.size)).alloc (As.T1 c p i)).frozen? ⟨tb,j,none⟩=false:=fun j=>by
  rw[World.frozen?_alloc_old _ _ ⟨tb,j,none⟩ (by simp;omega),World.frozen?_alloc_old _ _ ⟨tb,j,none⟩ (by simp;omega),World.frozen?_alloc_old _ _ ⟨tb,j,none⟩ (by simp;omega),World.frozen?_alloc_old _ _ ⟨tb,j,none⟩ (by simp;omega)]
  exact hf j
 have hnw:((((w.alloc (As.P1 tb)).alloc (As.V1 w.heap.size)).alloc (As.V1 w.heap.size)).alloc (As.T1 c p i)).heap[w.heap.size+1+1+1]?=some (As.T1 c p i):=blk_newn (by simp) _
 have st:=As.setT tb (w.heap.size+1+1+1) c p i o0 o1 o2 ((((w.alloc (As.P1 tb)).alloc (As.V1 w.heap.size)).alloc (As.V1 w.heap.size)).alloc (As.T1 c p i)) (by rw[blk_cell hnw];rfl) (by rw[blk_cell hnw];rfl) (by rw[blk_cell hnw];rfl) (cell_later b4 ht0) (cell_later b4 ht1) (cell_later b4 ht2) hfz
 clear hnw b2 b3 b4 hg hfz
 go_enter Tryz.func24,Tryz.ntmps24
 go_wp2
 refine wp_loop_rounds 1 ?_
 rw[rounds_succ]
 go_wp2
 go_ret
 exact⟨rfl,rfl⟩
theorem faultof_none (w:World):Calls Tryz.prog 17 #[.nilIface] w fun e w'=>e=.returned (FV 0 0 0)∧Below w.heap.size w w':=by
 go_enter Tryz.func17,Tryz.ntmps17
 go_wp2_with (go_at_call 24;refine (as_nil _ _).mono ?_;rintro e w' ⟨rfl,rfl⟩)
 exact bodyPost_ret (v:=FV 0 0 0) (by simp[results,Tryz.results17,go_sem]) rfl ⟨rfl,bw2 _ _ _⟩
end Go.Proofs.YtkajknidfoelcaaGreatDoor
namespace Go.Proofs.YtkajknidfoelcaaGreatDoor
open Go.RowKit
def ErrAt (w:World):Prop:=w.cell? ⟨0,0,none⟩=some (.iface 192 (.agg #[.pointer (some ⟨12,65,none⟩)]))
theorem ErrAt.later {w wx:World} (hb:Below w.heap.size w wx) (h:ErrAt w):ErrAt wx:=cell_later hb h
theorem faultof_some (c p i:Int) (w:World) (he:ErrAt w):Calls Tryz.prog 17 #[.iface 82 (FV c p i)] w fun e w'=>e=.returned (FV c p i)∧Below w.heap.size w w':=by
 have hB:=bw2 w (FO 0 0 0) (As.T1 0 0 0)
 have he2:=he.later hB
 have hT:((w.alloc (FO 0 0 0)).alloc (As.T1 0 0 0)).heap[w.heap.size+1]?=some (As.T1 0 0 0):=blk_newn (by simp) _
 have hR:((w.alloc (FO 0 0 0)).alloc (As.T1 0 0 0)).heap[w.heap.size]?=some (FO 0 0 0):=blk_old (blk_new _ _) _
 have t0:((w.alloc (FO 0 0 0)).alloc (As.T1 0 0 0)).cell? ⟨w.heap.size+1,0,none⟩=some (.int .i64 0):=by rw[blk_cell hT];rfl
 have t1:((w.alloc (FO 0 0 0)).alloc (As.T1 0 0 0)).cell? ⟨w.heap.size+1,1,none⟩=some (.int .i64 0):=by rw[blk_cell hT];rfl
 have t2:((w.alloc (FO 0 0 0)).alloc (As.T1 0 0 0)).cell? ⟨w.heap.size+1,2,none⟩=some (.int .i64 0):=by rw[blk_cell hT];rfl
 have z:=blk_frozen hT
 go_enter Tryz.func17,Tryz.ntmps17
 go_wp2_with fail
 refine (as_hit (w.heap.size+1) c p i _ _ _ _ he2 t0 t1 t2 z).mono ?_
 rintro e w9 ⟨rfl,hw9⟩
 have hB9:Below w.heap.size w w9:=by
  rw[hw9]
  exact (((below_alloc (below_alloc (below_alloc (below_alloc hB _) _) _) _).setCell (p:=⟨w.heap.size+1,0,none⟩) (by simp) _).setCell (p:=⟨w.heap.size+1,1,none⟩) (by simp) _).setCell (p:=⟨w.heap.size+1,2,none⟩) (by simp) _
 have hT9:w9.heap[w.heap.size+1]?=some (.cells (putl #[.int .i64 0,.int .i64 0,.int .i64 0] 0 [.int .i64 c,.int .i64 p,.int .i64 i]) 82):=by
  rw[hw9]
  exact blk_set (blk_set (blk_set (blk_old (blk_old (blk_old (blk_old hT _) _) _) _) 0 _) 1 _) 2 _
 have hR9:w9.heap[w.heap.size]?=some (FO 0 0 0):=by
  rw[hw9]
  exact blk_other (blk_other (blk_other (blk_old (blk_old (blk_old (blk_old hR _) _) _) _) (by omega) 0 _) (by omega) 1 _) (by omega) 2 _
 have d0:w9.cell? ⟨w.heap.size+1,0,none⟩=some (.int .i64 c):=by rw[blk_cell hT9];rfl
 have d1:w9.cell? ⟨w.heap.size+1,1,none⟩=some (.int .i64 p):=by rw[blk_cell hT9];rfl
 have d2:w9.cell? ⟨w.heap.size+1,2,none⟩=some (.int .i64 i):=by rw[blk_cell hT9];rfl
 have r0:w9.cell? ⟨w.heap.size,0,none⟩=some (.int .i64 0):=by rw[blk_cell hR9];rfl
 have r1:w9.cell? ⟨w.heap.size,1,none⟩=some (.int .i64 0):=by rw[blk_cell hR9];rfl
 have r2:w9.cell? ⟨w.heap.size,2,none⟩=some (.int .i64 0):=by rw[blk_cell hR9];rfl
 have z9:=blk_frozen hR9
 clear hw9 hT9 hR9 hT hR t0 t1 t2 z he2 he hB
 go_wp2_with fail
 refine bodyPost_ret (v:=FV c p i) (by simp[results,Tryz.results17,go_sem,r0,r1,r2]) rfl ⟨rfl,?_⟩
 exact ((hB9.setCell (p:=⟨w.heap.size,0,none⟩) (by simp) _).setCell (p:=⟨w.heap.size,1,none⟩) (by simp) _).setCell (p:=⟨w.heap.size,2,none⟩) (by simp) _
end Go.Proofs.YtkajknidfoelcaaGreatDoor
