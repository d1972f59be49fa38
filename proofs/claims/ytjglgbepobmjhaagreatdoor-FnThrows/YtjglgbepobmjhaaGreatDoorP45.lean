import Derived.Test.YtjglgbepobmjhaaGreatDoorP44
import Derived.Test.YtjglgbepobmjhaaGreatDoorP43
import Derived.Test.YtjglgbepobmjhaaGreatDoorP02
import Derived.Deep.Slices
import Derived.Deep.Strs
import Derived.DataShut
import Derived.ChangeSame
set_option linter.unusedVariables false
set_option linter.unusedSimpArgs false
set_option maxRecDepth 20000
set_option maxHeartbeats 8000000
namespace Go.Proofs.YtjglgbepobmjhaaGreatDoor.T
open Go.RowKit
theorem Pen.later {w0 w w':World} {g r:Nat} {cs:List VD} {l:List ID} (h:Pen w0 w g r cs l) (hb:Below w.heap.size w w'):Pen w0 w' g r cs l:=by
 obtain⟨h1,h2,iv,cv,tv,h3,h4,h6⟩:=h
 exact⟨h1.trans (hb.mono h1.size),h2,iv,cv,tv,blk_later hb h3,ORow.later h4 hb,ORow.later h6 hb⟩
theorem setA_mid (l:List ID) (n m:ID) (z:Int):setA (l++[n]++[m]) l.length z=l++[⟨n.op,z,n.b,n.c,n.d⟩]++[m]:=by
 unfold setA
 simp
theorem throws_four (b:Nat):tabL (2+4*(b+1)) tin=tabL (2+4*b) tin++[⟨31,((4+4*b:Nat):Int),4,0,0⟩]++[⟨30,0,0,0,0⟩]++[⟨42,4,0,0,0⟩]++[⟨42,5,0,0,0⟩]:=by
 have e2:tin (2+4*b)=⟨31,((4+4*b:Nat):Int),4,0,0⟩:=by
  unfold tin;rw[if_neg (by omega),if_neg (by omega),if_pos (by omega)];congr 1;omega
 have e3:tin (2+4*b+1)=⟨30,0,0,0,0⟩:=by
  unfold tin;rw[if_neg (by omega),if_neg (by omega),if_neg (by omega),if_pos (by omega)]
 have e4:tin (2+4*b+1+1)=⟨42,4,0,0,0⟩:=by
  unfold tin;rw[if_neg (by omega),if_neg (by omega),if_neg (by omega),if_neg (by omega),if_pos (by omega)]
 have e5:tin (2+4*b+1+1+1)=⟨42,5,0,0,0⟩:=by
  unfold tin;rw[if_neg (by omega),if_neg (by omega),if_neg (by omega),if_neg (by omega),if_neg (by omega)]
 rw[show 2+4*(b+1)=2+4*b+1+1+1+1 by omega,tabL_succ,tabL_succ,tabL_succ,tabL_succ,e2,e3,e4,e5]
theorem throws_last (k:Nat):throwsI k=tabL (2+4*k) tin++[⟨19,1,0,0,0⟩]:=by
 unfold throwsI
 rw[show 3+4*k=2+4*k+1 by omega,tabL_succ]
 have h1:tinK k (2+4*k)=⟨19,1,0,0,0⟩:=by unfold tinK;rw[if_pos rfl]
 rw[h1]
 congr 1
 exact tabL_ext (fun i hi=>by unfold tinK;rw[if_neg (by omega)])
theorem seven_ok:seven.ok:=⟨by decide,by show (0:Nat)≤maxLen;unfold maxLen;omega⟩
theorem made_throws (k:Nat) (hk:k≤250) (w:World) :
  Calls Tryz.prog 9 #[.int .i64 (k:Int)] w fun e w'=>(∃g1 f,e=.returned (.agg #[.slice (some ⟨g1,0,none⟩) 1 1])∧CodeAt w' (some ⟨g1,0,none⟩) [f]∧f.d=throwsD k)∧Below w.heap.size w w':=by
 go_enter Tryz.func9,Tryz.ntmps9
 go_wp2_with fail
 obtain⟨W1,hW1⟩:∃W1,w.alloc (.cells #[.slice none 0 0] 26)=W1:=⟨_,rfl⟩
 rw[hW1]
 refine (pen_any 8 (by omega) _).mono ?_
 rintro e w2 ⟨g,rfl,H⟩
 have HP:Hid (Pen W1 w2 g 8 [] []):=H
 clear H
 go_wp2_with fail
 refine (mk_int 7 _).mono ?_
 rintro e w3 ⟨rfl,hx⟩
 replace HP:Hid (Pen W1 w3 g 8 [] []):=HP.out.later hx
 clear hx
 go_wp2_with fail
 refine (pkonst_any 2 7 0 ⟨#[]⟩ 0 HP.out).mono ?_
 rintro e w4 ⟨rfl,H⟩
 replace HP:Hid (Pen W1 w4 g 8 [seven] []):=H
 clear H
 go_wp2_with fail
 refine (pput_any _ _ _ _ _ HP.out (by simp)).mono ?_
 rintro e w5 ⟨rfl,H⟩
 replace HP:Hid (Pen W1 w5 g 8 [seven] [⟨4,0,0,0,0⟩]):=H
 clear H
 go_wp2_with fail
 refine (pput_any _ _ _ _ _ HP.out (by simp)).mono ?_
 rintro e w6 ⟨rfl,H⟩
 replace HP:Hid (Pen W1 w6 g 8 [seven] (tabL (2+4*0) tin)):=H
 clear H
 have HKK:Hid (k≤250):=hk
 go_wp2_with fail
 go_loopw [5] (fun i wr=>∃b:Nat,i=.int .i64 (b:Int)∧b≤k∧Hid (Pen W1 wr g 8 [seven] (tabL (2+4*b) tin))) (fun i _=>k-(intOf i).toNat)
 case atStart=>exact⟨0,rfl,by omega,HP⟩
 case round =>
  clear HP
  obtain⟨b,rfl,hb,HP⟩:=hrel
  by_cases hbk:b<k
  ·have hbk':(b:Int)<(k:Int):=by omega
   obtain⟨i0,hi0⟩:∃i0:Nat,2+4*b=i0:=⟨_,rfl⟩
   rw[hi0]at HP
   have HI0:Hid (2+4*b=i0):=hi0
   have hi2:i0≤1002:=by omega
   have hTl:(tabL i0 tin).length=i0:=tabL_len _ _
   clear hi0
   go_wp2_with fail
   refine (pput_any _ _ _ _ _ HP.out (by omega)).mono ?_
   rintro e w7 ⟨rfl,H⟩
   rw[hTl]
   replace HP:Hid (Pen W1 w7 g 8 [seven] (tabL i0 tin++[⟨31,0,4,0,0⟩])):=H
   clear H
   go_wp2_with fail
   refine (pput_any _ _ _ _ _ HP.out (by rw[List.length_append,hTl];simp;omega)).mono ?_
   rintro e w8 ⟨rfl,H⟩
   replace HP:Hid (Pen W1 w8 g 8 [seven] (tabL i0 tin++[⟨31,0,4,0,0⟩]++[⟨30,0,0,0,0⟩])):=H
   clear H
   obtain⟨L,hL⟩:∃L,L=tabL i0 tin++[⟨31,0,4,0,0⟩]++[⟨30,0,0,0,0⟩]:=⟨_,rfl⟩
   have hLl:L.length=i0+2:=by rw[hL,List.length_append,List.length_append,hTl];rfl
   have hLi:L[i0]?=some ⟨31,0,4,0,0⟩:=by
    rw[hL,List.append_assoc,List.getElem?_append_right (by rw[hTl];omega),hTl]
    simp
   have HLs:Hid (∀z,setA L i0 z=tabL i0 tin++[⟨31,z,4,0,0⟩]++[⟨30,0,0,0,0⟩]):=by
    intro z
    have h9:=setA_mid (tabL i0 tin) ⟨31,0,4,0,0⟩ ⟨30,0,0,0,0⟩ z
    rw[hTl,←hL]at h9
    exact h9
   rw[←hL]at HP
   obtain⟨gi,cap,q7,qa,qz,HS⟩:=HP.out.open hLi
   have HZ:Hid (Pen W1 (w8.setCell ⟨gi,i0*5+1,none⟩ (.int .i64 (L.length:Int))).drew g 8 [seven] (setA L i0 (L.length:Int))):=(HS _).drew
   have HLL:Hid (L.length=i0+2):=hLl
   have hi1:i0<L.length:=by omega
   have hi3:(i0:Int)<(L.length:Int):=by omega
   have hi4:(0:Int)≤(i0:Int):=by omega
   clear HS hLi hLl hL hTl
   go_wp2_with fail
   go_cut [] from 24 to 33 (fun wx=>Hid (Pen W1 wx g 8 [seven] (setA L i0 (L.length:Int))))
   case first =>
    go_region_with (go_at_call 12;refine (pat_any HP.out.drew).mono ?_;rintro e w' ⟨rfl,rfl⟩)
    all_goals
     go_wp2_with fail
     go_meet
     exact HZ
   case rest =>
    have HP3:Hid (Pen W1 wc g 8 [seven] (tabL i0 tin++[⟨31,((4+4*b:Nat):Int),4,0,0⟩]++[⟨30,0,0,0,0⟩])):=by
     have h9:=hcut.out
     rw[HLs.out,HLL.out,show ((i0+2:Nat):Int)=((4+4*b:Nat):Int) by have:=HI0.out;omega]at h9
     exact h9
    clear hcut HZ q7 qa qz HP HLs HLL hi1 hi3
    go_wp2_with fail
    refine (pput_any _ _ _ _ _ HP3.out (by simp[tabL_len];omega)).mono ?_
    rintro e w10 ⟨rfl,H⟩
    have HP4:Hid _:=H
    clear H
    go_wp2_with fail
    refine (pput_any _ _ _ _ _ HP4.out (by simp[tabL_len];omega)).mono ?_
    rintro e w11 ⟨rfl,H⟩
    have HP5:Hid (Pen W1 w11 g 8 [seven] (tabL (2+4*(b+1)) tin)):=by
     show Pen _ _ _ _ _ _
     rw[throws_four,HI0.out]
     exact H
    clear H HP3 HP4
    go_wp2_with fail
    go_roundw
    case rel=>exact⟨b+1,by go_num,by omega,HP5⟩
    case measure=>simp[intOf];omega
  ·obtain rfl:b=k:=by omega
   have hbk':¬(b:Int)<(b:Int):=by omega
   have HK2:Hid (b≤250):=HKK.out
   go_wp2_with fail
   refine (pput_any _ _ _ _ _ HP.out (by rw[tabL_len];omega)).mono ?_
   rintro e w12 ⟨rfl,H⟩
   replace HP:Hid (Pen W1 w12 g 8 [seven] (throwsI b)):=by show Pen _ _ _ _ _ _;rw[throws_last];exact H
   clear H
   obtain⟨f,hd,⟨tv,hbb⟩,hli⟩:=HP.out.code
   have hB:Below W1.heap.size W1 w12:=HP.out.bel
   have hBw:Below w.heap.size w w12:=by
    have h1:Below w.heap.size w W1:=by rw[←hW1];exact bw1 _ _
    exact h1.trans (hB.mono h1.size)
   have hc0:w12.heap[w.heap.size]?=some (.cells #[.slice none 0 0] 26):=blk_later hB (by rw[←hW1];exact blk_new _ _)
   have hgW:W1.heap.size≤g:=HP.out.ge
   have hsz:W1.heap.size=w.heap.size+1:=by rw[←hW1];simp
   have c0:w12.cell? ⟨w.heap.size,0,none⟩=some (.slice none 0 0):=by rw[blk_cell hc0];rfl
   have hlt0:=blk_lt hc0
   have z0:=blk_frozen hc0
   have q0:w12.cell? ⟨g,0,none⟩=some (.string f.d.name):=by rw[blk_cell hbb];rfl
   have q1:w12.cell? ⟨g,1,none⟩=some (.int .i64 f.d.line):=by rw[blk_cell hbb];rfl
   have q2:w12.cell? ⟨g,2,none⟩=some (.int .i64 f.d.params):=by rw[blk_cell hbb];rfl
   have q3:w12.cell? ⟨g,3,none⟩=some (.bool f.d.rest):=by rw[blk_cell hbb];rfl
   have q4:w12.cell? ⟨g,4,none⟩=some (.int .i64 f.d.regs):=by rw[blk_cell hbb];rfl
   have q5:w12.cell? ⟨g,5,none⟩=some (.slice f.au f.d.ups.length f.cu):=by rw[blk_cell hbb];rfl
   have q6:w12.cell? ⟨g,6,none⟩=some (.slice f.ac f.d.consts.length f.cc):=by rw[blk_cell hbb];rfl
   have q7:w12.cell? ⟨g,7,none⟩=some (.slice f.ai f.d.ins.length f.ci):=by rw[blk_cell hbb];rfl
   have q8:w12.cell? ⟨g,8,none⟩=some (.slice f.an f.d.named.length f.cn):=by rw[blk_cell hbb];rfl
   have HL:Hid (f.lie ((w12.setCell ⟨w.heap.size,0,none⟩ (.slice (some ⟨w12.heap.size,0,none⟩) 1 1)).alloc (.cells f.cells.toArray 53))):=(hli w.heap.size 0 _ (by omega)).later (bw1 _ _)
   have HO:Hid f.d.ok:=by show FD.ok f.d;rw[hd];exact⟨by show (4:Nat)≤maxLen;unfold maxLen;omega,by simp,by simp,by show (throwsI b).length≤1048576;unfold throwsI;rw[tabL_len];have:=HK2.out;omega,by simp,by intro v hv;simp only[List.mem_singleton]at hv;subst hv;exact seven_ok,by simp⟩
   have HD:Hid (f.d=throwsD b):=hd
   have HBW:Hid (Below w.heap.size w w12):=hBw
   clear HP hbb hli hB hBw hd
   go_wp2_with fail
   refine bodyPost_ret (v:=.agg #[.slice (some ⟨w12.heap.size,0,none⟩) 1 1]) (by simp[results,Tryz.results9,go_sem,c0,hlt0]) rfl ⟨⟨_,f,rfl,code_one (blk_newn (by simp) _) HL.out HO.out,HD.out⟩,?_⟩
   exact (HBW.out.setCell (p:=⟨w.heap.size,0,none⟩) (by simp) _).trans ((bw1 _ _).mono (by have:=HBW.out.size;simp;omega))
end Go.Proofs.YtjglgbepobmjhaaGreatDoor.T
namespace Go.Proofs.YtjglgbepobmjhaaGreatDoor.M
open Go.RowKit
attribute [local go_sem] run_store_float
def byteU (u:UInt8):List Value:=[.int .u8 (u.toNat:Int)]
theorem byteU_len (u:UInt8):(byteU u).length=1:=rfl
theorem wb_any (a:Option Addr) (len cap i:Nat) (xs:List UInt8) (w:World) (hl:xs.length=len) (hp:SlA w 1 byteU a xs) (hlen:len≤1048576) (hi:i≤2) :
  Calls Tryz.prog 5 #[.slice a len cap,.int .i64 (i:Int)] w fun e w'=>(∃b:Nat,e=.returned (.int .i64 (b:Int))∧b<256)∧w'=w:=by
 by_cases h0:len=0
 ·subst h0
  go_enter Tryz.func5,Tryz.ntmps5
  go_wp2_with fail
  go_ret
  exact⟨⟨0,rfl,by omega⟩,rfl⟩
 ·have hm:i % len<len:=Nat.mod_lt _ (by omega)
  obtain⟨x,hx⟩:∃x,xs[i % len]?=some x:=⟨xs[i % len]'(by omega),by simp⟩
  obtain⟨b,off,rfl,hb,hc⟩:=hp _ x hx
  have c0:w.cell? ⟨b,off+i % len,none⟩=some (.int .u8 (x.toNat:Int)):=by have:=hc 0 _ rfl;simpa using this
  have hr:(i:Int).tmod (len:Int)=((i % len:Nat):Int):=rfl
  have hx8:x.toNat<256:=x.toNat_lt
  have b1:¬((len:Int)=0):=by omega
  have b2:((i % len:Nat):Int)<(len:Int):=by omega
  obtain⟨q,hq⟩:∃q,i % len=q:=⟨_,rfl⟩
  rw[hq]at c0 hr b2
  clear hp hc hx hm hq
  go_enter Tryz.func5,Tryz.ntmps5
  go_wp2_with fail
  go_ret
  exact⟨⟨x.toNat,rfl,hx8⟩,rfl⟩
end Go.Proofs.YtjglgbepobmjhaaGreatDoor.M
namespace Go.Proofs.YtjglgbepobmjhaaGreatDoor.T
open Go.RowKit M
attribute [local go_sem] run_store_float
theorem neq_rec4 (w:World):(binOp BinOp.neq 41 (.agg #[.int .i64 4,.int .i64 0,.int .i64 0,.int .i64 0,.string ⟨#[55]⟩]) (.agg #[.int .i64 4,.int .i64 0,.int .i64 0,.int .i64 0,.string ⟨#[55]⟩])).run Tryz.prog w=.ok (.bool false) w:=by kernel_rfl
theorem neq_rec5 (w:World):(binOp BinOp.neq 41 (.agg #[.int .i64 5,.int .i64 0,.int .i64 0,.int .i64 0,.string ⟨#[55]⟩]) (.agg #[.int .i64 5,.int .i64 0,.int .i64 0,.int .i64 0,.string ⟨#[55]⟩])).run Tryz.prog w=.ok (.bool false) w:=by kernel_rfl
theorem twalk (a:Option Addr) (len cap:Nat) (xs:List UInt8) (ov:Addr) (w:World) (hp:SlA w 1 byteU a xs) (hl:xs.length=len) (hlay:LayAt w) (hov:OvV w (some ov)) :
  Calls Tryz.prog 4 #[.slice a len cap] w fun e w'=>e=.returned (.bool true)∧Below w.heap.size w w':=by
 by_cases hbig:1048576<len
 ·have hb2:(1048576:Int)<(len:Int):=by omega
  go_enter Tryz.func4,Tryz.ntmps4
  go_wp2_with fail
  go_ret
  exact⟨rfl,Below.refl _ _⟩
 ·have hb2:¬(1048576:Int)<(len:Int):=by omega
  have HL:Hid (LayAt w):=hlay
  have HO:Hid (OvV w (some ov)):=hov
  have HW:Hid (∀i:Nat,i≤2→Calls Tryz.prog 5 #[.slice a len cap,.int .i64 (i:Int)] w fun e w'=>(∃b:Nat,e=.returned (.int .i64 (b:Int))∧b<256)∧w'=w):=fun i hi=>wb_any a len cap i xs w hl hp (by omega) hi
  clear hp hl hlay hov
  go_enter Tryz.func4,Tryz.ntmps4
  go_wp2_with fail
  refine (HW.out 0 (by omega)).mono ?_
  rintro e w1 ⟨⟨b0,rfl,h0⟩,rfl⟩
  have t0:(b0:Int).tmod 250=((b0 % 250:Nat):Int):=rfl
  have l0:b0 % 250<250:=Nat.mod_lt _ (by omega)
  obtain⟨q,hq⟩:∃q,b0 % 250=q:=⟨_,rfl⟩
  rw[hq]at t0 l0
  clear hq
  go_wp2_with fail
  refine (HW.out 1 (by omega)).mono ?_
  rintro e w2 ⟨⟨b1,rfl,h1⟩,rfl⟩
  go_wp2_with fail
  refine (HW.out 2 (by omega)).mono ?_
  rintro e w3 ⟨⟨b2,rfl,h2⟩,rfl⟩
  have t1:((b1:Int)+256*(b2:Int)).tmod 601=(((b1+256*b2) % 601:Nat):Int):=by
   rw[show (b1:Int)+256*(b2:Int)=((b1+256*b2:Nat):Int) by omega];rfl
  have l1:(b1+256*b2) % 601<601:=Nat.mod_lt _ (by omega)
  obtain⟨t,ht⟩:∃t,(b1+256*b2) % 601=t:=⟨_,rfl⟩
  rw[ht]at t1 l1
  clear ht
  go_wp2_with fail
  obtain⟨k,hk⟩:∃k:Nat,1+(q:Int)=(k:Int):=⟨q+1,by omega⟩
  have hk1:1≤k:=by omega
  have hk2:k≤250:=by omega
  rw[hk]
  clear hk l0 t0 t1 h0 h1 h2
  refine (made_throws k hk2 w3).mono ?_
  rintro e w4 ⟨⟨gp,f,rfl,hC4,hd⟩,hx4⟩
  have HB4:Hid (Below w3.heap.size w3 w4):=hx4
  have HR:Hid (Calls Tryz.prog 8 #[.agg #[.slice (some ⟨gp,0,none⟩) 1 1],.agg #[.slice none 0 0,.slice none 0 0,.int .i64 (t:Int),.int .i64 1,.int .i64 0]] w4 fun e w'=>RepP k t w4 e w'):=runCode_t gp k t f ov hd hk1 hk2 (by omega) w4 hC4 (HL.out.later hx4) (HO.out.later hx4)
  clear hx4 hC4 hd HW
  go_wp2_with fail
  refine HR.out.mono ?_
  rintro e w5 ⟨ra,nr,rcap,s,tr,tk,mk,rfl,hfin,hsl,_,hx5⟩
  have HB5:Hid (Below w3.heap.size w3 w5):=HB4.out.trans (hx5.mono HB4.out.size)
  have HS5:Hid (SlA w5 5 rcC ra (recL nr)):=hsl
  have HF:Hid (Fin' k t tk nr):=hfin
  clear hx5 hsl hfin HR
  unfold repU
  obtain⟨W6,hW6⟩:∃W6,w5.alloc (.cells #[.int .i64 2,.slice ra nr rcap,.slice none 0 0,.string s,.string tr,.int .i64 (tk:Int),.int .i64 mk] 34)=W6:=⟨_,rfl⟩
  have hb6:Below w5.heap.size w5 W6:=by rw[←hW6];exact bw1 _ _
  have HB6:Hid (Below w3.heap.size w3 W6):=HB5.out.trans (hb6.mono HB5.out.size)
  have hr6:W6.heap[w5.heap.size]?=some (.cells #[.int .i64 2,.slice ra nr rcap,.slice none 0 0,.string s,.string tr,.int .i64 (tk:Int),.int .i64 mk] 34):=by rw[←hW6];exact blk_new _ _
  have r0:W6.cell? ⟨w5.heap.size,0,none⟩=some (.int .i64 2):=by rw[blk_cell hr6];rfl
  have r1:W6.cell? ⟨w5.heap.size,1,none⟩=some (.slice ra nr rcap):=by rw[blk_cell hr6];rfl
  have r5:W6.cell? ⟨w5.heap.size,5,none⟩=some (.int .i64 (tk:Int)):=by rw[blk_cell hr6];rfl
  have HS6:Hid (SlA W6 5 rcC ra (recL nr)):=HS5.out.but' (S:=[]) (fun _ _ _ _=>by simp) (ButL.of_below hb6)
  have HR1:Hid (W6.cell? ⟨w5.heap.size,1,none⟩=some (.slice ra nr rcap)):=r1
  clear hb6 hr6 HS5
  obtain⟨n,hn⟩:∃n:Nat,2*k*t=n:=⟨_,rfl⟩
  have hn1:n≤300000:=by
   rw[←hn]
   have h9:2*k*t≤500*600:=Nat.mul_le_mul (by omega) (by omega)
   omega
  have hn2:2*(k:Int)*(t:Int)=(n:Int):=by rw[←hn,Int.natCast_mul,Int.natCast_mul];rfl
  obtain⟨d,hd⟩:∃d:Nat,100000 / (2*k)=d:=⟨_,rfl⟩
  have hd1:d≤100000:=by rw[←hd];exact Nat.div_le_self _ _
  have hd2:(100000:Int).tdiv (2*(k:Int))=(d:Int):=by rw[←hd,show 2*(k:Int)=((2*k:Nat):Int) by omega];rfl
  have hd3:¬2*(k:Int)=0:=by omega
  have HFI:Hid ((n≤100000∧tk=t∧nr=n)∨(100000<n∧tk=d+1∧nr=100000)):=by
   have h9:=HF.out
   unfold Fin' at h9
   rw[hn,hd]at h9
   exact h9
  have hnr:nr≤100000:=by rcases HFI.out with h9 | h9<;>omega
  clear hn hd HF
  rcases HFI.out with ⟨h1,rfl,rfl⟩ | ⟨h1,h2,rfl⟩
  ·have k1:¬(100000:Int)<(nr:Int):=by omega
   clear HFI
   go_wp2_with fail
   go_loopw [58] (fun i wr=>∃c:Nat,i=.int .i64 (c:Int)∧c≤nr∧Hid (Below W6.heap.size W6 wr)) (fun i _=>nr-(intOf i).toNat)
   case atStart=>exact⟨0,rfl,by omega,Below.refl _ _⟩
   case round =>
    obtain⟨c,rfl,hc,HX⟩:=hrel
    have q1:wr.cell? ⟨w5.heap.size,1,none⟩=some (.slice ra nr rcap):=cell_later HX.out HR1.out
    by_cases hcn:c<nr
    ·have hcn':(c:Int)<(nr:Int):=by omega
     obtain⟨b9,o9,e9,hlt9,hc9⟩:=HS6.out c (kindN c) (by unfold recL;rw[List.getElem?_map,List.getElem?_range hcn];rfl)
     subst e9
     have i0:wr.cell? ⟨b9,o9+c*5,none⟩=some (.int .i64 (kindN c)):=by have:=cell_later HX.out (hc9 0 _ rfl);simpa using this
     have i1:wr.cell? ⟨b9,o9+c*5+1,none⟩=some (.int .i64 0):=cell_later HX.out (hc9 1 _ rfl)
     have i2:wr.cell? ⟨b9,o9+c*5+2,none⟩=some (.int .i64 0):=cell_later HX.out (hc9 2 _ rfl)
     have i3:wr.cell? ⟨b9,o9+c*5+3,none⟩=some (.int .i64 0):=cell_later HX.out (hc9 3 _ rfl)
     have i4:wr.cell? ⟨b9,o9+c*5+4,none⟩=some (.string ⟨#[55]⟩):=cell_later HX.out (hc9 4 _ rfl)
     have hlt8:b9<wr.heap.size:=Nat.lt_of_lt_of_le hlt9 HX.out.size
     have hlt7:=World.block_lt_of_cell? _ _ q1
     have tm:(c:Int).tmod 2=((c % 2:Nat):Int):=rfl
     have n4:=neq_rec4
     have n5:=neq_rec5
     clear hc9 hlt9
     have hm:c % 2=0∨c % 2=1:=by omega
     rcases hm with hm | hm
     ·rw[kind_even hm]at i0
      rw[hm]at tm
      obtain⟨W7,hW7⟩:∃W7,wr.alloc (RcO 4)=W7:=⟨_,rfl⟩
      have hb7:Below wr.heap.size wr W7:=by rw[←hW7];exact bw1 _ _
      have hw7:W7.heap[wr.heap.size]?=some (RcO 4):=by rw[←hW7];exact blk_new _ _
      have HB7:Hid (Below W6.heap.size W6 W7):=HX.out.trans (hb7.mono HX.out.size)
      have p0:W7.cell? ⟨b9,o9+c*5,none⟩=some (.int .i64 4):=cell_later hb7 i0
      have p1:=cell_later hb7 i1
      have p2:=cell_later hb7 i2
      have p3:=cell_later hb7 i3
      have p4:=cell_later hb7 i4
      have p5:=cell_later hb7 q1
      have d0:W7.cell? ⟨wr.heap.size,0,none⟩=some (.int .i64 4):=by rw[blk_cell hw7];rfl
      have d1:W7.cell? ⟨wr.heap.size,1,none⟩=some (.int .i64 0):=by rw[blk_cell hw7];rfl
      have d2:W7.cell? ⟨wr.heap.size,2,none⟩=some (.int .i64 0):=by rw[blk_cell hw7];rfl
      have d3:W7.cell? ⟨wr.heap.size,3,none⟩=some (.int .i64 0):=by rw[blk_cell hw7];rfl
      have d4:W7.cell? ⟨wr.heap.size,4,none⟩=some (.string ⟨#[55]⟩):=by rw[blk_cell hw7];rfl
      clear hb7 hw7
      go_wp2_with fail
      clear hW7 i0 i1 i2 i3 i4 q1
      go_region
      go_wp2_with fail
      go_roundw
      case rel=>exact⟨c+1,by go_num,by omega,HB7.out.drew⟩
      case measure=>simp[intOf];omega
     ·rw[kind_odd hm]at i0
      rw[hm]at tm
      obtain⟨W7,hW7⟩:∃W7,(wr.alloc (RcO 4)).setCell ⟨wr.heap.size,0,none⟩ (.int .i64 5)=W7:=⟨_,rfl⟩
      have hb7:Below wr.heap.size wr W7:=by rw[←hW7];exact (bw1 wr (RcO 4)).setCell (p:=⟨wr.heap.size,0,none⟩) (Nat.le_refl _) _
      have hw7:W7.heap[wr.heap.size]?=some (RcO 5):=by rw[←hW7];exact blk_set (blk_new _ _) 0 _
      have HB7:Hid (Below W6.heap.size W6 W7):=HX.out.trans (hb7.mono HX.out.size)
      have p0:W7.cell? ⟨b9,o9+c*5,none⟩=some (.int .i64 5):=cell_later hb7 i0
      have p1:=cell_later hb7 i1
      have p2:=cell_later hb7 i2
      have p3:=cell_later hb7 i3
      have p4:=cell_later hb7 i4
      have p5:=cell_later hb7 q1
      have d0:W7.cell? ⟨wr.heap.size,0,none⟩=some (.int .i64 5):=by rw[blk_cell hw7];rfl
      have d1:W7.cell? ⟨wr.heap.size,1,none⟩=some (.int .i64 0):=by rw[blk_cell hw7];rfl
      have d2:W7.cell? ⟨wr.heap.size,2,none⟩=some (.int .i64 0):=by rw[blk_cell hw7];rfl
      have d3:W7.cell? ⟨wr.heap.size,3,none⟩=some (.int .i64 0):=by rw[blk_cell hw7];rfl
      have d4:W7.cell? ⟨wr.heap.size,4,none⟩=some (.string ⟨#[55]⟩):=by rw[blk_cell hw7];rfl
      clear hb7 hw7
      go_wp2_with fail
      clear hW7 i0 i1 i2 i3 i4 q1
      go_region
      go_wp2_with fail
      go_roundw
      case rel=>exact⟨c+1,by go_num,by omega,HB7.out.drew⟩
      case measure=>simp[intOf];omega
    ·have hcn':¬(c:Int)<(nr:Int):=by omega
     go_wp2_with fail
     go_ret
     exact⟨rfl,HB6.out.trans (HX.out.mono HB6.out.size)⟩
  ·have k1:(100000:Int)<(n:Int):=by omega
   have htk:(d:Int)+1=(tk:Int):=by omega
   clear HFI h2
   go_wp2_with fail
   go_loopw [58] (fun i wr=>∃c:Nat,i=.int .i64 (c:Int)∧c≤100000∧Hid (Below W6.heap.size W6 wr)) (fun i _=>100000-(intOf i).toNat)
   case atStart=>exact⟨0,rfl,by omega,Below.refl _ _⟩
   case round =>
    obtain⟨c,rfl,hc,HX⟩:=hrel
    have q1:wr.cell? ⟨w5.heap.size,1,none⟩=some (.slice ra 100000 rcap):=cell_later HX.out HR1.out
    by_cases hcn:c<100000
    ·have hcn':(c:Int)<100000:=by omega
     obtain⟨b9,o9,e9,hlt9,hc9⟩:=HS6.out c (kindN c) (by unfold recL;rw[List.getElem?_map,List.getElem?_range hcn];rfl)
     subst e9
     have i0:wr.cell? ⟨b9,o9+c*5,none⟩=some (.int .i64 (kindN c)):=by have:=cell_later HX.out (hc9 0 _ rfl);simpa using this
     have i1:wr.cell? ⟨b9,o9+c*5+1,none⟩=some (.int .i64 0):=cell_later HX.out (hc9 1 _ rfl)
     have i2:wr.cell? ⟨b9,o9+c*5+2,none⟩=some (.int .i64 0):=cell_later HX.out (hc9 2 _ rfl)
     have i3:wr.cell? ⟨b9,o9+c*5+3,none⟩=some (.int .i64 0):=cell_later HX.out (hc9 3 _ rfl)
     have i4:wr.cell? ⟨b9,o9+c*5+4,none⟩=some (.string ⟨#[55]⟩):=cell_later HX.out (hc9 4 _ rfl)
     have hlt8:b9<wr.heap.size:=Nat.lt_of_lt_of_le hlt9 HX.out.size
     have hlt7:=World.block_lt_of_cell? _ _ q1
     have tm:(c:Int).tmod 2=((c % 2:Nat):Int):=rfl
     have n4:=neq_rec4
     have n5:=neq_rec5
     clear hc9 hlt9
     have hm:c % 2=0∨c % 2=1:=by omega
     rcases hm with hm | hm
     ·rw[kind_even hm]at i0
      rw[hm]at tm
      obtain⟨W7,hW7⟩:∃W7,wr.alloc (RcO 4)=W7:=⟨_,rfl⟩
      have hb7:Below wr.heap.size wr W7:=by rw[←hW7];exact bw1 _ _
      have hw7:W7.heap[wr.heap.size]?=some (RcO 4):=by rw[←hW7];exact blk_new _ _
      have HB7:Hid (Below W6.heap.size W6 W7):=HX.out.trans (hb7.mono HX.out.size)
      have p0:W7.cell? ⟨b9,o9+c*5,none⟩=some (.int .i64 4):=cell_later hb7 i0
      have p1:=cell_later hb7 i1
      have p2:=cell_later hb7 i2
      have p3:=cell_later hb7 i3
      have p4:=cell_later hb7 i4
      have p5:=cell_later hb7 q1
      have d0:W7.cell? ⟨wr.heap.size,0,none⟩=some (.int .i64 4):=by rw[blk_cell hw7];rfl
      have d1:W7.cell? ⟨wr.heap.size,1,none⟩=some (.int .i64 0):=by rw[blk_cell hw7];rfl
      have d2:W7.cell? ⟨wr.heap.size,2,none⟩=some (.int .i64 0):=by rw[blk_cell hw7];rfl
      have d3:W7.cell? ⟨wr.heap.size,3,none⟩=some (.int .i64 0):=by rw[blk_cell hw7];rfl
      have d4:W7.cell? ⟨wr.heap.size,4,none⟩=some (.string ⟨#[55]⟩):=by rw[blk_cell hw7];rfl
      clear hb7 hw7
      go_wp2_with fail
      clear hW7 i0 i1 i2 i3 i4 q1
      go_region
      go_wp2_with fail
      go_roundw
      case rel=>exact⟨c+1,by go_num,by omega,HB7.out.drew⟩
      case measure=>simp[intOf];omega
     ·rw[kind_odd hm]at i0
      rw[hm]at tm
      obtain⟨W7,hW7⟩:∃W7,(wr.alloc (RcO 4)).setCell ⟨wr.heap.size,0,none⟩ (.int .i64 5)=W7:=⟨_,rfl⟩
      have hb7:Below wr.heap.size wr W7:=by rw[←hW7];exact (bw1 wr (RcO 4)).setCell (p:=⟨wr.heap.size,0,none⟩) (Nat.le_refl _) _
      have hw7:W7.heap[wr.heap.size]?=some (RcO 5):=by rw[←hW7];exact blk_set (blk_new _ _) 0 _
      have HB7:Hid (Below W6.heap.size W6 W7):=HX.out.trans (hb7.mono HX.out.size)
      have p0:W7.cell? ⟨b9,o9+c*5,none⟩=some (.int .i64 5):=cell_later hb7 i0
      have p1:=cell_later hb7 i1
      have p2:=cell_later hb7 i2
      have p3:=cell_later hb7 i3
      have p4:=cell_later hb7 i4
      have p5:=cell_later hb7 q1
      have d0:W7.cell? ⟨wr.heap.size,0,none⟩=some (.int .i64 5):=by rw[blk_cell hw7];rfl
      have d1:W7.cell? ⟨wr.heap.size,1,none⟩=some (.int .i64 0):=by rw[blk_cell hw7];rfl
      have d2:W7.cell? ⟨wr.heap.size,2,none⟩=some (.int .i64 0):=by rw[blk_cell hw7];rfl
      have d3:W7.cell? ⟨wr.heap.size,3,none⟩=some (.int .i64 0):=by rw[blk_cell hw7];rfl
      have d4:W7.cell? ⟨wr.heap.size,4,none⟩=some (.string ⟨#[55]⟩):=by rw[blk_cell hw7];rfl
      clear hb7 hw7
      go_wp2_with fail
      clear hW7 i0 i1 i2 i3 i4 q1
      go_region
      go_wp2_with fail
      go_roundw
      case rel=>exact⟨c+1,by go_num,by omega,HB7.out.drew⟩
      case measure=>simp[intOf];omega
    ·have hcn':¬(c:Int)<100000:=by omega
     go_wp2_with fail
     go_ret
     exact⟨rfl,HB6.out.trans (HX.out.mono HB6.out.size)⟩
end Go.Proofs.YtjglgbepobmjhaaGreatDoor.T
namespace Go.Proofs.YtjglgbepobmjhaaGreatDoor
open Go.ChangeShapes Go.WideShapes Go.ChangeAt Go.RowKit
theorem spot_none {w:World} {a:Addr} {v:Value} (h:w.cell? a=some v):a=⟨a.block,a.off,none⟩:=by
 obtain⟨b,o,s⟩:=a
 cases s with
 | none=>rfl
 | some x =>
  unfold World.cell? at h
  split at h
  ·simp at h
  ·cases h
theorem list4 {α:Type} {cs:List α} (h:cs.length=4):∃c0 c1 c2 c3,cs=[c0,c1,c2,c3]:=by
 match cs,h with
 | [c0,c1,c2,c3],_=>exact⟨c0,c1,c2,c3,rfl⟩
section
variable {H:Type} {enc:TypeId × Value→H} {w:World} {base:Nat} {spare:Nat→Bool} {held:Bool}
theorem open_sl {α:Type} (x0:α) (cells:α→List Value) (k:Nat) (P:α→Prop) (st et:TypeId) (hu:Tryz.prog.underlying st=some (.slice et)) (hk:Tryz.prog.cellsOf et=k) (hk0:0<k) (hlen:∀x,(cells x).length=k)
  (ho:∀(fuel:Nat) (cs:List Value) (x:DataW H × List MemPlace),DataW.trod enc Tryz.prog w 0 spare held fuel et cs=some x→∃v,cs=cells v∧P v)
  {fuel:Nat} {sv:Value} {x:DataW H × List MemPlace} (h:DataW.trod enc Tryz.prog w 0 spare held fuel st [sv]=some x) :
  ∃(a:Option Addr) (cap:Nat) (xs:List α),sv=.slice a xs.length cap∧SlA w k cells a xs∧(∀v∈xs,P v)∧xs.length≤maxLen:=by
 rcases Deep.open_slice hu h with ⟨h0,_⟩ | ⟨a,len,cap,m,n,D,Pl,h0,hb,hl,hm,hmm,hx,hi⟩
 ·simp only[List.cons.injEq,and_true]at h0
  exact⟨none,0,[],h0,SlA.nil _ _ _ _,by simp,by simp⟩
 ·simp only[List.cons.injEq,and_true]at h0
  subst h0
  rw[hk]at hi
  have hlm:len≤m:=by rw[hmm];split<;>omega
  by_cases hz:len=0
  ·subst hz
   exact⟨some a,cap,[],rfl,SlA.nil _ _ _ _,by simp,by simp⟩
  ·haveI:Inhabited α:=⟨x0⟩
   obtain⟨f,hf⟩:=Deep.choose_lt (α:=α) (n:=len) (p:=fun i p=>P p∧∀j v,(cells p)[j]?=some v→w.cell? (a.add (i*k+j))=some v) (fun i hil=>by
    obtain⟨cs,h1,h2⟩:=hi i (by omega)
    obtain⟨p,rfl,hp⟩:=ho _ _ _ h2
    obtain⟨_,_,h3⟩:=World.cells?_some h1
    refine⟨p,hp,fun j v hv=>?_⟩
    have hj:j<k:=by have:=(List.getElem?_eq_some_iff.1 hv).1;rw[hlen]at this;exact this
    rw[←Deep.add_add,h3 j hj];exact hv)
   have h1:(cells (f 0))[0]?=some ((cells (f 0))[0]'(by rw[hlen];exact hk0)):=List.getElem?_eq_getElem _
   have h00:=(hf 0 (by omega)).2 0 _ h1
   have ha:a=⟨a.block,a.off,none⟩:=spot_none (w:=w) (by simpa [Addr.add] using h00)
   have hlt':a.block<w.heap.size:=World.block_lt_of_cell? _ _ (by simpa [Addr.add] using h00)
   refine⟨some a,cap,(List.range len).map f,?_,?_,?_,?_⟩
   ·rw[List.length_map,List.length_range]
   ·intro i p hip
    simp only[List.getElem?_map,Option.map_eq_some_iff]at hip
    obtain⟨i',hi',rfl⟩:=hip
    have hil:i<len:=by
     have:=(List.getElem?_eq_some_iff.1 hi').1
     simpa using this
    rw[List.getElem?_range hil]at hi'
    cases hi'
    refine⟨a.block,a.off,by rw[←ha],hlt',fun j v hv=>?_⟩
    have:=(hf i hil).2 j v hv
    rw[ha,Addr.add_lit]at this
    rw[Nat.add_assoc];exact this
   ·intro p hp
    simp only[List.mem_map,List.mem_range]at hp
    obtain⟨i,hil,rfl⟩:=hp
    exact (hf i hil).1
   ·rw[List.length_map,List.length_range];omega
end
end Go.Proofs.YtjglgbepobmjhaaGreatDoor
