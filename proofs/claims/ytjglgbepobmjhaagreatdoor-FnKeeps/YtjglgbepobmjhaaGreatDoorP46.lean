import Derived.Test.YtjglgbepobmjhaaGreatDoorP45
import Derived.Test.YtjglgbepobmjhaaGreatDoorP42
import Derived.Deep.CutRange
import Derived.Test.YtjglgbepobmjhaaGreatDoorP02
import Derived.Deep.Slices
import Derived.Deep.Strs
import Derived.DataShut
import Derived.ChangeSame
set_option linter.unusedVariables false
set_option linter.unusedSimpArgs false
set_option maxRecDepth 20000
set_option maxHeartbeats 8000000
namespace Go.Proofs.YtjglgbepobmjhaaGreatDoor
open Go.RowKit
theorem made_each (j k:Nat) (hj:j<11) (hk:k<11) (w:World) :
  Calls Tryz.prog 6 #[.int .i64 (j:Int),.int .i64 (k:Int),.bool true] w fun e w'=>(∃g1 f,e=.returned (.agg #[.slice (some ⟨g1,0,none⟩) 1 1])∧CodeAt w' (some ⟨g1,0,none⟩) [f]∧f.d=keepsD j k true)∧Below w.heap.size w w':=by
 go_enter Tryz.func6,Tryz.ntmps6
 go_wp2_with fail
 obtain⟨W1,hW1⟩:∃W1,w.alloc (.cells #[.slice none 0 0] 26)=W1:=⟨_,rfl⟩
 rw[hW1]
 refine (pen_any 12 (by omega) _).mono ?_
 rintro e w2 ⟨g,rfl,H⟩
 have HP:Hid _:=H
 clear H
 go_wp2_with fail
 refine (pput_any _ _ _ _ _ HP.out (by simp)).mono ?_
 rintro e w3 ⟨rfl,H⟩
 replace HP:Hid _:=H
 clear H
 go_wp2_with fail
 refine (pput_any _ _ _ _ _ HP.out (by simp)).mono ?_
 rintro e w4 ⟨rfl,H⟩
 replace HP:Hid _:=H
 clear H
 go_wp2_with fail
 refine (pput_any _ _ _ _ _ HP.out (by simp)).mono ?_
 rintro e w5 ⟨rfl,H⟩
 replace HP:Hid _:=H
 clear H
 go_wp2_with fail
 refine (pput_any _ _ _ _ _ HP.out (by simp)).mono ?_
 rintro e w6 ⟨rfl,H⟩
 replace HP:Hid _:=H
 clear H
 go_wp2_with fail
 refine (pput_any _ _ _ _ _ HP.out (by simp)).mono ?_
 rintro e w7 ⟨rfl,H⟩
 replace HP:Hid _:=H
 clear H
 go_wp2_with fail
 refine (pput_any _ _ _ _ _ HP.out (by simp)).mono ?_
 rintro e w8 ⟨rfl,H⟩
 replace HP:Hid _:=H
 clear H
 go_wp2_with fail
 refine (pput_any _ _ _ _ _ HP.out (by simp)).mono ?_
 rintro e w9 ⟨rfl,H⟩
 replace HP:Hid _:=H
 clear H
 go_wp2_with fail
 obtain⟨gi,cap,q7,qa,qz,HS⟩:=HP.out.open (i:=1) rfl
 have HZ:Hid _:=(HS 7).drew
 clear HS
 go_cut [] from 34 to 44 (fun wx=>Hid (Pen W1 wx g 12 [⟨12,k,0,0,0⟩,⟨31,7,j,0,0⟩,⟨40,k,0,0,0⟩,⟨42,k,0,0,0⟩,⟨42,(k:Int)+1,0,0,0⟩,⟨32,0,0,0,0⟩,⟨19,0,0,0,0⟩]))
 case first =>
  go_region_with (go_at_call 12;refine (pat_any HP.out.drew).mono ?_;rintro e w' ⟨rfl,rfl⟩)
  all_goals
   go_wp2_with fail
   go_meet
   exact HZ
 case rest =>
  replace HP:Hid _:=hcut.out
  clear hcut HZ q7 qa qz
  go_wp2_with fail
  refine (pput_any _ _ _ _ _ HP.out (by simp)).mono ?_
  rintro e w10 ⟨rfl,H⟩
  replace HP:Hid _:=H
  clear H
  go_wp2_with fail
  refine (pput_any _ _ _ _ _ HP.out (by simp)).mono ?_
  rintro e w11 ⟨rfl,H⟩
  replace HP:Hid _:=H
  clear H
  go_wp2_with fail
  obtain⟨gi,cap,q7,qa,qz,HS⟩:=HP.out.open (i:=6) rfl
  have HZ:Hid _:=(HS 9).drew
  clear HS
  go_cut [] from 51 to 61 (fun wx=>Hid (Pen W1 wx g 12 [⟨12,k,0,0,0⟩,⟨31,7,j,0,0⟩,⟨40,k,0,0,0⟩,⟨42,k,0,0,0⟩,⟨42,(k:Int)+1,0,0,0⟩,⟨32,0,0,0,0⟩,⟨19,9,0,0,0⟩,⟨42,j,0,0,0⟩,⟨42,(j:Int)+1,0,0,0⟩]))
  case first =>
   go_region_with (go_at_call 12;refine (pat_any HP.out.drew).mono ?_;rintro e w' ⟨rfl,rfl⟩)
   all_goals
    go_wp2_with fail
    go_meet
    exact HZ
  case rest =>
   replace HP:Hid _:=hcut.out
   clear hcut HZ q7 qa qz
   go_wp2_with fail
   refine (pback_any _ HP.out (by simp) (by omega)).mono ?_
   rintro e w12 ⟨rfl,H⟩
   replace HP:Hid _:=H
   clear H
   obtain⟨f,hd,⟨tv,hb⟩,hli⟩:=HP.out.code
   have hB:Below W1.heap.size W1 w12:=HP.out.bel
   have hBw:Below w.heap.size w w12:=by
    have h1:Below w.heap.size w W1:=by rw[←hW1];exact bw1 _ _
    exact h1.trans (hB.mono h1.size)
   have hc0:w12.heap[w.heap.size]?=some (.cells #[.slice none 0 0] 26):=blk_later hB (by rw[←hW1];exact blk_new _ _)
   have hgW:W1.heap.size≤g:=HP.out.ge
   have hsz:W1.heap.size=w.heap.size+1:=by rw[←hW1];simp
   have c0:w12.cell? ⟨w.heap.size,0,none⟩=some (.slice none 0 0):=by rw[blk_cell hc0];rfl
   have hlt0:=blk_lt hc0
   have z0:=blk_frozen hc0
   have q0:w12.cell? ⟨g,0,none⟩=some (.string f.d.name):=by rw[blk_cell hb];rfl
   have q1:w12.cell? ⟨g,1,none⟩=some (.int .i64 f.d.line):=by rw[blk_cell hb];rfl
   have q2:w12.cell? ⟨g,2,none⟩=some (.int .i64 f.d.params):=by rw[blk_cell hb];rfl
   have q3:w12.cell? ⟨g,3,none⟩=some (.bool f.d.rest):=by rw[blk_cell hb];rfl
   have q4:w12.cell? ⟨g,4,none⟩=some (.int .i64 f.d.regs):=by rw[blk_cell hb];rfl
   have q5:w12.cell? ⟨g,5,none⟩=some (.slice f.au f.d.ups.length f.cu):=by rw[blk_cell hb];rfl
   have q6:w12.cell? ⟨g,6,none⟩=some (.slice f.ac f.d.consts.length f.cc):=by rw[blk_cell hb];rfl
   have q7:w12.cell? ⟨g,7,none⟩=some (.slice f.ai f.d.ins.length f.ci):=by rw[blk_cell hb];rfl
   have q8:w12.cell? ⟨g,8,none⟩=some (.slice f.an f.d.named.length f.cn):=by rw[blk_cell hb];rfl
   have HL:Hid (f.lie ((w12.setCell ⟨w.heap.size,0,none⟩ (.slice (some ⟨w12.heap.size,0,none⟩) 1 1)).alloc (.cells f.cells.toArray 53))):=(hli w.heap.size 0 _ (by omega)).later (bw1 _ _)
   have HO:Hid f.d.ok:=by show FD.ok f.d;rw[hd];exact⟨by show (4:Nat)≤maxLen;unfold maxLen;omega,by simp,by simp,by simp,by simp,by simp,by simp⟩
   have HD:Hid (f.d=keepsD j k true):=hd
   have HBW:Hid (Below w.heap.size w w12):=hBw
   clear HP hb hli hB hBw hd
   go_wp2_with fail
   refine bodyPost_ret (v:=.agg #[.slice (some ⟨w12.heap.size,0,none⟩) 1 1]) (by simp[results,Tryz.results6,go_sem,c0,hlt0]) rfl ⟨⟨_,f,rfl,code_one (blk_newn (by simp) _) HL.out HO.out,HD.out⟩,?_⟩
   exact (HBW.out.setCell (p:=⟨w.heap.size,0,none⟩) (by simp) _).trans ((bw1 _ _).mono (by have:=HBW.out.size;simp;omega))
theorem made_not (j k:Nat) (hj:j<11) (hk:k<11) (w:World) :
  Calls Tryz.prog 6 #[.int .i64 (j:Int),.int .i64 (k:Int),.bool false] w fun e w'=>(∃g1 f,e=.returned (.agg #[.slice (some ⟨g1,0,none⟩) 1 1])∧CodeAt w' (some ⟨g1,0,none⟩) [f]∧f.d=keepsD j k false)∧Below w.heap.size w w':=by
 go_enter Tryz.func6,Tryz.ntmps6
 go_wp2_with fail
 obtain⟨W1,hW1⟩:∃W1,w.alloc (.cells #[.slice none 0 0] 26)=W1:=⟨_,rfl⟩
 rw[hW1]
 refine (pen_any 12 (by omega) _).mono ?_
 rintro e w2 ⟨g,rfl,H⟩
 have HP:Hid _:=H
 clear H
 go_wp2_with fail
 refine (pput_any _ _ _ _ _ HP.out (by simp)).mono ?_
 rintro e w3 ⟨rfl,H⟩
 replace HP:Hid _:=H
 clear H
 go_wp2_with fail
 refine (pput_any _ _ _ _ _ HP.out (by simp)).mono ?_
 rintro e w4 ⟨rfl,H⟩
 replace HP:Hid _:=H
 clear H
 go_wp2_with fail
 refine (pput_any _ _ _ _ _ HP.out (by simp)).mono ?_
 rintro e w5 ⟨rfl,H⟩
 replace HP:Hid _:=H
 clear H
 go_wp2_with fail
 refine (pput_any _ _ _ _ _ HP.out (by simp)).mono ?_
 rintro e w6 ⟨rfl,H⟩
 replace HP:Hid _:=H
 clear H
 go_wp2_with fail
 refine (pback_any _ HP.out (by simp) (by omega)).mono ?_
 rintro e w7 ⟨rfl,H⟩
 replace HP:Hid _:=H
 clear H
 go_wp2_with fail
 obtain⟨gi,cap,q7,qa,qz,HS⟩:=HP.out.open (i:=1) rfl
 have HZ:Hid _:=(HS 6).drew
 clear HS
 go_cut [] from 78 to 88 (fun wx=>Hid (Pen W1 wx g 12 [⟨31,0,j,0,0⟩,⟨31,6,k,0,0⟩,⟨32,0,0,0,0⟩,⟨32,0,0,0,0⟩,⟨22,11,0,0,0⟩,⟨29,-12,0,0,0⟩]))
 case first =>
  go_region_with (go_at_call 12;refine (pat_any HP.out.drew).mono ?_;rintro e w' ⟨rfl,rfl⟩)
  all_goals
   go_wp2_with fail
   go_meet
   exact HZ
 case rest =>
  replace HP:Hid _:=hcut.out
  clear hcut HZ q7 qa qz
  go_wp2_with fail
  refine (pput_any _ _ _ _ _ HP.out (by simp)).mono ?_
  rintro e w8 ⟨rfl,H⟩
  replace HP:Hid _:=H
  clear H
  go_wp2_with fail
  obtain⟨gi,cap,q7,qa,qz,HS⟩:=HP.out.open (i:=0) rfl
  have HZ:Hid _:=(HS 7).drew
  clear HS
  go_cut [] from 91 to 101 (fun wx=>Hid (Pen W1 wx g 12 [⟨31,7,j,0,0⟩,⟨31,6,k,0,0⟩,⟨32,0,0,0,0⟩,⟨32,0,0,0,0⟩,⟨22,11,0,0,0⟩,⟨29,-12,0,0,0⟩,⟨30,k,0,0,0⟩]))
  case first =>
   go_region_with (go_at_call 12;refine (pat_any HP.out.drew).mono ?_;rintro e w' ⟨rfl,rfl⟩)
   all_goals
    go_wp2_with fail
    go_meet
    exact HZ
  case rest =>
   replace HP:Hid _:=hcut.out
   clear hcut HZ q7 qa qz
   go_wp2_with fail
   refine (pback_any _ HP.out (by simp) (by omega)).mono ?_
   rintro e w9 ⟨rfl,H⟩
   replace HP:Hid _:=H
   clear H
   obtain⟨f,hd,⟨tv,hb⟩,hli⟩:=HP.out.code
   have hB:Below W1.heap.size W1 w9:=HP.out.bel
   have hBw:Below w.heap.size w w9:=by
    have h1:Below w.heap.size w W1:=by rw[←hW1];exact bw1 _ _
    exact h1.trans (hB.mono h1.size)
   have hc0:w9.heap[w.heap.size]?=some (.cells #[.slice none 0 0] 26):=blk_later hB (by rw[←hW1];exact blk_new _ _)
   have hgW:W1.heap.size≤g:=HP.out.ge
   have hsz:W1.heap.size=w.heap.size+1:=by rw[←hW1];simp
   have c0:w9.cell? ⟨w.heap.size,0,none⟩=some (.slice none 0 0):=by rw[blk_cell hc0];rfl
   have hlt0:=blk_lt hc0
   have z0:=blk_frozen hc0
   have q0:w9.cell? ⟨g,0,none⟩=some (.string f.d.name):=by rw[blk_cell hb];rfl
   have q1:w9.cell? ⟨g,1,none⟩=some (.int .i64 f.d.line):=by rw[blk_cell hb];rfl
   have q2:w9.cell? ⟨g,2,none⟩=some (.int .i64 f.d.params):=by rw[blk_cell hb];rfl
   have q3:w9.cell? ⟨g,3,none⟩=some (.bool f.d.rest):=by rw[blk_cell hb];rfl
   have q4:w9.cell? ⟨g,4,none⟩=some (.int .i64 f.d.regs):=by rw[blk_cell hb];rfl
   have q5:w9.cell? ⟨g,5,none⟩=some (.slice f.au f.d.ups.length f.cu):=by rw[blk_cell hb];rfl
   have q6:w9.cell? ⟨g,6,none⟩=some (.slice f.ac f.d.consts.length f.cc):=by rw[blk_cell hb];rfl
   have q7:w9.cell? ⟨g,7,none⟩=some (.slice f.ai f.d.ins.length f.ci):=by rw[blk_cell hb];rfl
   have q8:w9.cell? ⟨g,8,none⟩=some (.slice f.an f.d.named.length f.cn):=by rw[blk_cell hb];rfl
   have HL:Hid (f.lie ((w9.setCell ⟨w.heap.size,0,none⟩ (.slice (some ⟨w9.heap.size,0,none⟩) 1 1)).alloc (.cells f.cells.toArray 53))):=(hli w.heap.size 0 _ (by omega)).later (bw1 _ _)
   have HO:Hid f.d.ok:=by show FD.ok f.d;rw[hd];exact⟨by show (4:Nat)≤maxLen;unfold maxLen;omega,by simp,by simp,by simp,by simp,by simp,by simp⟩
   have HD:Hid (f.d=keepsD j k false):=hd
   have HBW:Hid (Below w.heap.size w w9):=hBw
   clear HP hb hli hB hBw hd
   go_wp2_with fail
   refine bodyPost_ret (v:=.agg #[.slice (some ⟨w9.heap.size,0,none⟩) 1 1]) (by simp[results,Tryz.results6,go_sem,c0,hlt0]) rfl ⟨⟨_,f,rfl,code_one (blk_newn (by simp) _) HL.out HO.out,HD.out⟩,?_⟩
   exact (HBW.out.setCell (p:=⟨w.heap.size,0,none⟩) (by simp) _).trans ((bw1 _ _).mono (by have:=HBW.out.size;simp;omega))
theorem made_any (j k:Nat) (hj:j<11) (hk:k<11) (each:Bool) (w:World) :
  Calls Tryz.prog 6 #[.int .i64 (j:Int),.int .i64 (k:Int),.bool each] w fun e w'=>(∃g1 f,e=.returned (.agg #[.slice (some ⟨g1,0,none⟩) 1 1])∧CodeAt w' (some ⟨g1,0,none⟩) [f]∧f.d=keepsD j k each)∧Below w.heap.size w w':=by
 cases each
 ·exact made_not j k hj hk w
 ·exact made_each j k hj hk w
end Go.Proofs.YtjglgbepobmjhaaGreatDoor
namespace Go.Proofs.YtjglgbepobmjhaaGreatDoor.M
open Go.RowKit
attribute [local go_sem] run_store_float
def byteU (u:UInt8):List Value:=[.int .u8 (u.toNat:Int)]
theorem byteU_len (u:UInt8):(byteU u).length=1:=rfl
theorem wb_any (a:Option Addr) (len cap i:Nat) (xs:List UInt8) (w:World) (hl:xs.length=len) (hp:SlA w 1 byteU a xs) (hlen:len≤1048576) (hi:i≤2) :
  Calls Tryz.prog 5 #[.slice a len cap,.int .i64 (i:Int)] w fun e w'=>(∃b:Nat,e=.returned (.int .i64 (b:Int))∧b<256)∧w'=w:=by
 by_cases h0:len=0
 ·subst h0
  go_enter Tryz.func5,Tryz.ntmps5
  go_wp2_with fail
  go_ret
  exact⟨⟨0,rfl,by omega⟩,rfl⟩
 ·have hm:i % len<len:=Nat.mod_lt _ (by omega)
  obtain⟨x,hx⟩:∃x,xs[i % len]?=some x:=⟨xs[i % len]'(by omega),by simp⟩
  obtain⟨b,off,rfl,hb,hc⟩:=hp _ x hx
  have c0:w.cell? ⟨b,off+i % len,none⟩=some (.int .u8 (x.toNat:Int)):=by have:=hc 0 _ rfl;simpa using this
  have hr:(i:Int).tmod (len:Int)=((i % len:Nat):Int):=rfl
  have hx8:x.toNat<256:=x.toNat_lt
  have b1:¬((len:Int)=0):=by omega
  have b2:((i % len:Nat):Int)<(len:Int):=by omega
  obtain⟨q,hq⟩:∃q,i % len=q:=⟨_,rfl⟩
  rw[hq]at c0 hr b2
  clear hp hc hx hm hq
  go_enter Tryz.func5,Tryz.ntmps5
  go_wp2_with fail
  go_ret
  exact⟨⟨x.toNat,rfl,hx8⟩,rfl⟩
theorem keeps_wf {j k:Nat} (hj:j<11) (hk:k<11) (each:Bool) (hjk:j≤k):(shapeV [keepsD j k each]).1=0∧WF [keepsD j k each] 0 (keepsD j k each) none:=by
 have h:=keeps_all
 simp only[List.all_eq_true,List.mem_range,Bool.and_eq_true]at h
 have h0:keepsOk j k each=true:=by
  have:=h j hj k hk
  cases each
  ·exact this.2
  ·exact this.1
 unfold keepsOk at h0
 simp only[Bool.and_eq_true,decide_eq_true_eq]at h0
 obtain⟨hs,h1⟩:=h0
 refine⟨hs,?_⟩
 cases hr:runF [keepsD j k each] (keepsI j k each) 40 (startS (keepsD j k each)) with
 | none=>rw[hr]at h1;cases h1
 | some r =>
  rw[hr]at h1
  cases r with
  | ok s =>
   simp only[Bool.and_eq_true,decide_eq_true_eq]at h1
   obtain⟨k',hk'⟩:=runF_runs hr
   have hE:=fwd_ee (d:=keepsD j k each) h1.2 (fun x _ y hy=>by
    have:y=x+1:=by simpa [silS,id0] using hy
    omega)
   exact⟨k',_,hk',.inr ⟨fun i _=>fwd_cyc hE i,rfl⟩⟩
  | error e =>
   simp only[Bool.and_eq_true,decide_eq_true_eq]at h1
   exact absurd hjk h1.1
theorem keeps_good {j k:Nat} (hj:j<11) (hk:k<11) (each:Bool) (hjk:j≤k) {f:FC} (hd:f.d=keepsD j k each):GoodF f:=by
 obtain⟨h1,h2⟩:=keeps_wf hj hk each hjk
 refine⟨by rw[hd];exact h1,by rw[hd];exact h2,by rw[hd];rfl,by rw[hd];rfl,?_,?_,?_⟩
 ·rw[hd];cases each
  ·show (9:Nat)≤100;omega
  ·show (11:Nat)≤100;omega
 ·rw[hd];cases each
  ·show 0<(9:Nat);omega
  ·show 0<(11:Nat);omega
 ·rw[hd];exact keeps_run hj hk hjk each
theorem fld_rep (s t:ByteArray) (a b:Int) (w:World):(Instr.field 34 (.agg #[.int .i64 0,.slice none 0 0,.slice none 0 0,.string s,.string t,.int .i64 a,.int .i64 b]) 0).run Tryz.prog w=.ok (.int .i64 0) w:=by kernel_rfl
theorem eq_12 (w:World):(binOp BinOp.eql 29 (.agg #[.int .i64 12,.int .i64 0,.int .i64 2]) (.agg #[.int .i64 12,.int .i64 0,.int .i64 2])).run Tryz.prog w=.ok (.bool true) w:=by kernel_rfl
theorem eq_11 (w:World):(binOp BinOp.eql 29 (.agg #[.int .i64 11,.int .i64 0,.int .i64 1]) (.agg #[.int .i64 11,.int .i64 0,.int .i64 1])).run Tryz.prog w=.ok (.bool true) w:=by kernel_rfl
theorem walk (a:Option Addr) (len cap:Nat) (xs:List UInt8) (w:World) (hp:SlA w 1 byteU a xs) (hl:xs.length=len) (hlay:LayAt w) (herr:ErrAt w) (hov:OvAt w) :
  Calls Tryz.prog 3 #[.slice a len cap] w fun e w'=>e=.returned (.bool true)∧Below w.heap.size w w':=by
 by_cases hbig:1048576<len
 ·have hb2:(1048576:Int)<(len:Int):=by omega
  go_enter Tryz.func3,Tryz.ntmps3
  go_wp2_with fail
  go_ret
  exact⟨rfl,Below.refl _ _⟩
 ·have hb2:¬(1048576:Int)<(len:Int):=by omega
  have HL:Hid (LayAt w):=hlay
  have HE:Hid (ErrAt w):=herr
  have HO:Hid (OvAt w):=hov
  have HW:Hid (∀i:Nat,i≤2→Calls Tryz.prog 5 #[.slice a len cap,.int .i64 (i:Int)] w fun e w'=>(∃b:Nat,e=.returned (.int .i64 (b:Int))∧b<256)∧w'=w):=fun i hi=>wb_any a len cap i xs w hl hp (by omega) hi
  clear hp hl hlay herr hov
  go_enter Tryz.func3,Tryz.ntmps3
  go_wp2_with fail
  refine (HW.out 0 (by omega)).mono ?_
  rintro e w1 ⟨⟨b0,rfl,h0⟩,rfl⟩
  have t0:(b0:Int).tmod 11=((b0 % 11:Nat):Int):=rfl
  have l0:b0 % 11<11:=Nat.mod_lt _ (by omega)
  obtain⟨j,hj⟩:∃j,b0 % 11=j:=⟨_,rfl⟩
  rw[hj]at t0 l0
  go_wp2_with fail
  refine (HW.out 1 (by omega)).mono ?_
  rintro e w2 ⟨⟨b1,rfl,h1⟩,rfl⟩
  have t1:(b1:Int).tmod 11=((b1 % 11:Nat):Int):=rfl
  have l1:b1 % 11<11:=Nat.mod_lt _ (by omega)
  obtain⟨k,hk⟩:∃k,b1 % 11=k:=⟨_,rfl⟩
  rw[hk]at t1 l1
  go_wp2_with fail
  refine (HW.out 2 (by omega)).mono ?_
  rintro e w3 ⟨⟨b2,rfl,h2⟩,rfl⟩
  clear hj hk h0 h1 h2
  go_wp2_with fail
  generalize ((b2:Int) % 2 == 0)=each
  refine (made_any j k l0 l1 each w3).mono ?_
  rintro e w4 ⟨⟨gp,f,rfl,hC4,hd⟩,hx4⟩
  have HB4:Hid (Below w3.heap.size w3 w4):=hx4
  have HC4:Hid (CodeAt w4 (some ⟨gp,0,none⟩) [f]):=hC4
  have HD:Hid (f.d=keepsD j k each):=hd
  have HCK:Hid (∀r,CkR ([f].map FC.d) r→r=keepsF j k each):=fun r hr=>by
   have h9:CkR [keepsD j k each] r:=by rw[←hd];exact hr
   exact CkR.uniq h9 (keeps_ck l0 l1 each)
  clear hx4 hC4 hd HW
  go_wp2_with fail
  obtain⟨W5,hW5⟩:∃W5,w4.alloc (.cells #[.slice (some ⟨gp,0,none⟩) 1 1] 26)=W5:=⟨_,rfl⟩
  rw[hW5]
  have hb5:Below w4.heap.size w4 W5:=by rw[←hW5];exact bw1 _ _
  have hbl:Below w3.heap.size w3 W5:=HB4.out.trans (hb5.mono HB4.out.size)
  have HB5:Hid (Below w3.heap.size w3 W5):=hbl
  have HC5:Hid (CodeAt W5 (some ⟨gp,0,none⟩) [f]):=HC4.out.later hb5
  have HG5:Hid (W5.heap[w4.heap.size]?=some (.cells #[.slice (some ⟨gp,0,none⟩) 1 1] 26)):=by show _=_;rw[←hW5];exact blk_new _ _
  have HI5:Hid (Calls Tryz.prog 7 #[.agg #[.slice (some ⟨gp,0,none⟩) 1 1]] W5 fun e w'=>(∃r:F3,CkR ([f].map FC.d) r∧e=.returned (FV r.1 r.2.1 r.2.2))∧Below W5.heap.size W5 w'):=icheckcode_any (some ⟨gp,0,none⟩) 1 1 [f] W5 HC5.out rfl (HL.out.later hbl) (HE.out.later hbl)
  clear hW5 hb5 hbl
  refine HI5.out.mono ?_
  rintro e w6 ⟨⟨r,hr,rfl⟩,hx6⟩
  obtain rfl:=HCK.out r hr
  have HB6:Hid (Below w3.heap.size w3 w6):=HB5.out.trans (hx6.mono HB5.out.size)
  have HC6:Hid (CodeAt w6 (some ⟨gp,0,none⟩) [f]):=HC5.out.later hx6
  have g6:w6.cell? ⟨w4.heap.size,0,none⟩=some (.slice (some ⟨gp,0,none⟩) 1 1):=by rw[blk_cell (blk_later hx6 HG5.out)];rfl
  have hlt6:w4.heap.size<w6.heap.size:=World.block_lt_of_cell? _ _ g6
  clear hr hx6 HI5
  by_cases hjk:j≤k
  ·have hkf:keepsF j k each=(0,0,0):=by unfold keepsF;rw[if_pos hjk]
   rw[hkf]
   have i1:(j:Int)≤(k:Int):=by omega
   have hfl:=fun s t a b=>fld_rep s t a b
   obtain⟨W7,hW7⟩:∃W7,w6.alloc (.cells #[.int .i64 0,.int .i64 0,.int .i64 0] 29)=W7:=⟨_,rfl⟩
   have hb7:Below w6.heap.size w6 W7:=by rw[←hW7];exact bw1 _ _
   have hbl:Below w3.heap.size w3 W7:=HB6.out.trans (hb7.mono HB6.out.size)
   have HB7:Hid (Below w3.heap.size w3 W7):=hbl
   have hf7:W7.heap[w6.heap.size]?=some (.cells #[.int .i64 0,.int .i64 0,.int .i64 0] 29):=by rw[←hW7];exact blk_new _ _
   have f0:W7.cell? ⟨w6.heap.size,0,none⟩=some (.int .i64 0):=by rw[blk_cell hf7];rfl
   have g7:=cell_later hb7 g6
   have HR:Hid (Calls Tryz.prog 8 #[.agg #[.slice (some ⟨gp,0,none⟩) 1 1],.agg #[.slice none 0 0,.slice none 0 0,.int .i64 9,.int .i64 1,.int .i64 9]] W7 fun e w'=>(∃s t a b,e=.returned (repV s t a b))∧Below W7.heap.size W7 w'):=runCode_ok gp f (keeps_good l0 l1 each hjk HD.out) W7 (HC6.out.later hb7) (HL.out.later hbl) (by obtain⟨v,hv⟩:=HO.out;exact⟨v,cell_later hbl hv⟩)
   clear hb7 hbl hf7
   subst hW7
   go_wp2_with fail
   refine HR.out.mono ?_
   rintro e w8 ⟨⟨s,t,x,y,rfl⟩,hx8⟩
   have HB8:Hid (Below w3.heap.size w3 w8):=HB7.out.trans (hx8.mono HB7.out.size)
   unfold repV
   clear hx8 HR
   go_wp2_with fail
   go_ret
   exact⟨rfl,HB8.out⟩
  ·have i1:¬(j:Int)≤(k:Int):=by omega
   have q12:=eq_12
   have q11:=eq_11
   cases each with
   | true =>
    have hkf:keepsF j k true=(12,0,2):=by unfold keepsF;rw[if_neg hjk];rfl
    rw[hkf]
    go_wp2_with fail
    go_ret
    exact⟨rfl,HB6.out.trans ((bw1 _ _).mono HB6.out.size)⟩
   | false =>
    have hkf:keepsF j k false=(11,0,1):=by unfold keepsF;rw[if_neg hjk];rfl
    rw[hkf]
    go_wp2_with fail
    go_ret
    exact⟨rfl,HB6.out.trans ((bw1 _ _).mono HB6.out.size)⟩
end Go.Proofs.YtjglgbepobmjhaaGreatDoor.M
namespace Go.Proofs.YtjglgbepobmjhaaGreatDoor
open Go.ChangeShapes Go.WideShapes Go.ChangeAt Go.RowKit
theorem spot_none {w:World} {a:Addr} {v:Value} (h:w.cell? a=some v):a=⟨a.block,a.off,none⟩:=by
 obtain⟨b,o,s⟩:=a
 cases s with
 | none=>rfl
 | some x =>
  unfold World.cell? at h
  split at h
  ·simp at h
  ·cases h
theorem list4 {α:Type} {cs:List α} (h:cs.length=4):∃c0 c1 c2 c3,cs=[c0,c1,c2,c3]:=by
 match cs,h with
 | [c0,c1,c2,c3],_=>exact⟨c0,c1,c2,c3,rfl⟩
section
variable {H:Type} {enc:TypeId × Value→H} {w:World} {base:Nat} {spare:Nat→Bool} {held:Bool}
theorem open_sl {α:Type} (x0:α) (cells:α→List Value) (k:Nat) (P:α→Prop) (st et:TypeId) (hu:Tryz.prog.underlying st=some (.slice et)) (hk:Tryz.prog.cellsOf et=k) (hk0:0<k) (hlen:∀x,(cells x).length=k)
  (ho:∀(fuel:Nat) (cs:List Value) (x:DataW H × List MemPlace),DataW.trod enc Tryz.prog w 0 spare held fuel et cs=some x→∃v,cs=cells v∧P v)
  {fuel:Nat} {sv:Value} {x:DataW H × List MemPlace} (h:DataW.trod enc Tryz.prog w 0 spare held fuel st [sv]=some x) :
  ∃(a:Option Addr) (cap:Nat) (xs:List α),sv=.slice a xs.length cap∧SlA w k cells a xs∧(∀v∈xs,P v)∧xs.length≤maxLen:=by
 rcases Deep.open_slice hu h with ⟨h0,_⟩ | ⟨a,len,cap,m,n,D,Pl,h0,hb,hl,hm,hmm,hx,hi⟩
 ·simp only[List.cons.injEq,and_true]at h0
  exact⟨none,0,[],h0,SlA.nil _ _ _ _,by simp,by simp⟩
 ·simp only[List.cons.injEq,and_true]at h0
  subst h0
  rw[hk]at hi
  have hlm:len≤m:=by rw[hmm];split<;>omega
  by_cases hz:len=0
  ·subst hz
   exact⟨some a,cap,[],rfl,SlA.nil _ _ _ _,by simp,by simp⟩
  ·haveI:Inhabited α:=⟨x0⟩
   obtain⟨f,hf⟩:=Deep.choose_lt (α:=α) (n:=len) (p:=fun i p=>P p∧∀j v,(cells p)[j]?=some v→w.cell? (a.add (i*k+j))=some v) (fun i hil=>by
    obtain⟨cs,h1,h2⟩:=hi i (by omega)
    obtain⟨p,rfl,hp⟩:=ho _ _ _ h2
    obtain⟨_,_,h3⟩:=World.cells?_some h1
    refine⟨p,hp,fun j v hv=>?_⟩
    have hj:j<k:=by have:=(List.getElem?_eq_some_iff.1 hv).1;rw[hlen]at this;exact this
    rw[←Deep.add_add,h3 j hj];exact hv)
   have h1:(cells (f 0))[0]?=some ((cells (f 0))[0]'(by rw[hlen];exact hk0)):=List.getElem?_eq_getElem _
   have h00:=(hf 0 (by omega)).2 0 _ h1
   have ha:a=⟨a.block,a.off,none⟩:=spot_none (w:=w) (by simpa [Addr.add] using h00)
   have hlt':a.block<w.heap.size:=World.block_lt_of_cell? _ _ (by simpa [Addr.add] using h00)
   refine⟨some a,cap,(List.range len).map f,?_,?_,?_,?_⟩
   ·rw[List.length_map,List.length_range]
   ·intro i p hip
    simp only[List.getElem?_map,Option.map_eq_some_iff]at hip
    obtain⟨i',hi',rfl⟩:=hip
    have hil:i<len:=by
     have:=(List.getElem?_eq_some_iff.1 hi').1
     simpa using this
    rw[List.getElem?_range hil]at hi'
    cases hi'
    refine⟨a.block,a.off,by rw[←ha],hlt',fun j v hv=>?_⟩
    have:=(hf i hil).2 j v hv
    rw[ha,Addr.add_lit]at this
    rw[Nat.add_assoc];exact this
   ·intro p hp
    simp only[List.mem_map,List.mem_range]at hp
    obtain⟨i,hil,rfl⟩:=hp
    exact (hf i hil).1
   ·rw[List.length_map,List.length_range];omega
end
end Go.Proofs.YtjglgbepobmjhaaGreatDoor
