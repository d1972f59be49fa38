import Derived.Test.YtliahjnnbbgooaaGreatDoorP36
import Derived.Test.YtliahjnnbbgooaaGreatDoorP42
import Derived.Lib.Join
import Derived.Test.YtliahjnnbbgooaaGreatDoorP45
import Derived.Test.YtliahjnnbbgooaaGreatDoorP46
import Derived.Shelf.Strings.OnBuilder
import Derived.Test.YtliahjnnbbgooaaGreatDoorP02
import Derived.Deep.Slices
import Derived.Deep.Strs
import Derived.DataShut
import Derived.ChangeSame
set_option linter.unusedVariables false
set_option linter.unusedSimpArgs false
set_option maxRecDepth 20000
set_option maxHeartbeats 8000000
namespace Go.Proofs.YtliahjnnbbgooaaGreatDoor.J
open Go.RowKit M T U
attribute [local go_sem] run_store_float
def priL (xs:List RcD):List ByteArray:=(xs.filter (fun x=>x.k == 6)).map (·.s)
theorem priL_yes {xs:List RcD} {q:Nat} {x:RcD} (h:xs[q]?=some x) (hk:x.k=6):priL (xs.take (q+1))=priL (xs.take q)++[x.s]:=by
 unfold priL
 rw[List.take_add_one,h]
 simp[hk]
theorem priL_no {xs:List RcD} {q:Nat} {x:RcD} (h:xs[q]?=some x) (hk:¬x.k=6):priL (xs.take (q+1))=priL (xs.take q):=by
 unfold priL
 rw[List.take_add_one,h]
 simp[hk]
theorem priL_len (xs:List RcD) (q:Nat):(priL (xs.take q)).length≤q:=by
 unfold priL
 rw[List.length_map]
 exact Nat.le_trans (List.length_filter_le _ _) (by rw[List.length_take];omega)
abbrev RpA (a:Option Addr) (n cap:Nat) (s tr:ByteArray) (tk mk:Int):Array Value:=#[.int .i64 0,.slice a n cap,.slice none 0 0,.string s,.string tr,.int .i64 tk,.int .i64 mk]
theorem wprints_any (a:Option Addr) (n cap:Nat) (s tr:ByteArray) (tk mk:Int) (xs:List RcD) (w:World) (hxs:SlA w 5 rgC a xs) (hn:xs.length=n) (hn1:n≤900) :
  Calls Tryz.prog 7 #[.agg (RpA a n cap s tr tk mk)] w fun e w'=>(∃sv,e=.returned sv∧ORow w' w.heap.size 9 1 sC sv (priL xs))∧Below w.heap.size w w':=by
 have HX:Hid (SlA w 5 rgC a xs):=hxs
 have HN:Hid (xs.length=n):=hn
 clear hxs hn
 go_enter Tryz.func7,Tryz.ntmps7
 go_wp2_with fail
 go_loopw [3,9] (fun tv i wr=>∃q:Nat,q≤n∧i=.int .i64 q∧Hid (ORow wr w.heap.size 9 1 sC tv (priL (xs.take q)))∧Hid (Below w.heap.size w wr)) (fun _ i _=>n-(intOf i).toNat)
 case atStart=>exact⟨0,Nat.zero_le _,rfl,ORow.nil _ _ _ _ _,bw1 _ _⟩
 case round =>
  obtain⟨q,hq,rfl,HO,HB⟩:=hrel
  obtain⟨av,cv,hv⟩:=ORow.val HO.out
  have hlen:=priL_len xs q
  obtain⟨pl,hpl⟩:∃pl,(priL (xs.take q)).length=pl:=⟨_,rfl⟩
  rw[hpl]at hv hlen
  subst hv
  by_cases k1:q<n
  ·obtain⟨x,hx⟩:∃x,xs[q]?=some x:=⟨xs[q]'(by rw[HN.out];exact k1),by simp⟩
   obtain⟨b,off,rfl,hbl,hcl⟩:=HX.out q x hx
   have c0:wr.cell? ⟨b,off+q*5,none⟩=some (.int .i64 x.k):=cell_later HB.out (hcl 0 _ rfl)
   have c1:wr.cell? ⟨b,off+q*5+1,none⟩=some (.int .i64 0):=cell_later HB.out (hcl 1 _ rfl)
   have c2:wr.cell? ⟨b,off+q*5+2,none⟩=some (.int .i64 0):=cell_later HB.out (hcl 2 _ rfl)
   have c3:wr.cell? ⟨b,off+q*5+3,none⟩=some (.int .i64 x.l):=cell_later HB.out (hcl 3 _ rfl)
   have c4:wr.cell? ⟨b,off+q*5+4,none⟩=some (.string x.s):=cell_later HB.out (hcl 4 _ rfl)
   clear hcl
   by_cases k6:x.k=6
   ·have HE:Hid (priL (xs.take (q+1))=priL (xs.take q)++[x.s]):=priL_yes hx k6
    rw[k6]at c0
    obtain⟨W5,hW5⟩:∃W5,wr.alloc (.cells #[.int .i64 6,.int .i64 0,.int .i64 0,.int .i64 x.l,.string x.s] 67)=W5:=⟨_,rfl⟩
    have hb5:Below wr.heap.size wr W5:=by rw[←hW5];exact bw1 _ _
    have h5:W5.heap[wr.heap.size]?=some (.cells #[.int .i64 6,.int .i64 0,.int .i64 0,.int .i64 x.l,.string x.s] 67):=by rw[←hW5];exact blk_new _ _
    have d0:W5.cell? ⟨wr.heap.size,0,none⟩=some (.int .i64 6):=by rw[blk_cell h5];rfl
    have d4:W5.cell? ⟨wr.heap.size,4,none⟩=some (.string x.s):=by rw[blk_cell h5];rfl
    have hlt5:=blk_lt h5
    have HB1:Hid (Below w.heap.size w W5):=HB.out.trans (hb5.mono HB.out.size)
    have ho1:ORow W5 w.heap.size 9 1 sC (.slice av pl cv) (priL (xs.take q)):=ORow.later HO.out hb5
    obtain⟨g',cap',w2,hrun,HO2,HG2⟩:=str_row x.s ho1 (by omega) HB1.out.size
    rw[hpl]at hrun HO2
    have HR2:Hid _:=hrun
    have HB2:Hid (Below w.heap.size w w2):=below_grown (HB1.out.trans ((bw1 _ (.cells #[.string x.s] 9)).mono HB1.out.size)) (by have:=HB1.out.size;simp;omega) (ORow.later ho1 (bw1 _ _)) (Nat.le_refl _) HG2.out
    clear hx k6 hrun ho1 HG2 hb5 h5
    go_wp2_with (at_builtin;refine wpList_append_run rfl _ _ _ rfl _ _ _ _ rfl rfl HR2.out ?_)
    go_roundw
    case rel=>exact⟨q+1,by omega,by go_num,by rw[HE.out];exact HO2,HB2⟩
    case measure=>simp[intOf];omega
   ·have HE:Hid (priL (xs.take (q+1))=priL (xs.take q)):=priL_no hx k6
    have HB1:Hid (Below w.heap.size w (wr.alloc (.cells #[.int .i64 x.k,.int .i64 0,.int .i64 0,.int .i64 x.l,.string x.s] 67))):=HB.out.trans ((bw1 _ _).mono HB.out.size)
    have HO1:Hid (ORow (wr.alloc (.cells #[.int .i64 x.k,.int .i64 0,.int .i64 0,.int .i64 x.l,.string x.s] 67)) w.heap.size 9 1 sC (.slice av pl cv) (priL (xs.take q))):=ORow.later HO.out (bw1 _ _)
    clear hx
    go_wp2_with fail
    go_roundw
    case rel=>exact⟨q+1,by omega,by go_num,by rw[HE.out];exact HO1,HB1⟩
    case measure=>simp[intOf];omega
  ·have hqn:q=n:=by omega
   subst hqn
   have hfull:xs.take q=xs:=List.take_of_length_le (by rw[HN.out];omega)
   have HO1:Hid (ORow wr w.heap.size 9 1 sC (.slice av pl cv) (priL xs)):=by have h9:=HO.out;rw[hfull]at h9;exact h9
   clear hfull hpl
   go_wp2_with fail
   go_ret
   exact⟨⟨_,rfl,HO1.out⟩,HB.out⟩
theorem wtold_no (a:Option Addr) (n cap:Nat) (s tr t:ByteArray) (tk mk:Int) (xs:List RcD) (w:World) (hxs:SlA w 5 rgC a xs) (hn:xs.length=n) (hn1:n≤900) (hk:∀x∈xs,¬x.k=4) :
  Calls Tryz.prog 8 #[.agg (RpA a n cap s tr tk mk),.string t] w fun e w'=>e=.returned (.bool false)∧Below w.heap.size w w':=by
 have HX:Hid (SlA w 5 rgC a xs):=hxs
 have HN:Hid (xs.length=n):=hn
 have HK:Hid (∀x∈xs,¬x.k=4):=hk
 clear hxs hn hk
 go_enter Tryz.func8,Tryz.ntmps8
 go_wp2_with fail
 go_loopw [10] (fun i wr=>∃q:Nat,q≤n∧i=.int .i64 q∧Hid (Below w.heap.size w wr)) (fun i _=>n-(intOf i).toNat)
 case atStart=>exact⟨0,Nat.zero_le _,rfl,bw1 _ _⟩
 case round =>
  obtain⟨q,hq,rfl,HB⟩:=hrel
  by_cases k1:q<n
  ·obtain⟨x,hx⟩:∃x,xs[q]?=some x:=⟨xs[q]'(by rw[HN.out];exact k1),by simp⟩
   obtain⟨b,off,rfl,hbl,hcl⟩:=HX.out q x hx
   have c0:wr.cell? ⟨b,off+q*5,none⟩=some (.int .i64 x.k):=cell_later HB.out (hcl 0 _ rfl)
   have c1:wr.cell? ⟨b,off+q*5+1,none⟩=some (.int .i64 0):=cell_later HB.out (hcl 1 _ rfl)
   have c2:wr.cell? ⟨b,off+q*5+2,none⟩=some (.int .i64 0):=cell_later HB.out (hcl 2 _ rfl)
   have c3:wr.cell? ⟨b,off+q*5+3,none⟩=some (.int .i64 x.l):=cell_later HB.out (hcl 3 _ rfl)
   have c4:wr.cell? ⟨b,off+q*5+4,none⟩=some (.string x.s):=cell_later HB.out (hcl 4 _ rfl)
   have k4:=HK.out x (List.mem_of_getElem? hx)
   have HB1:Hid (Below w.heap.size w (wr.alloc (.cells #[.int .i64 x.k,.int .i64 0,.int .i64 0,.int .i64 x.l,.string x.s] 67))):=HB.out.trans ((bw1 _ _).mono HB.out.size)
   clear hcl hx
   go_wp2_with fail
   go_roundw
   case rel=>exact⟨q+1,by omega,by go_num,HB1⟩
   case measure=>simp[intOf];omega
  ·have hqn:q=n:=by omega
   subst hqn
   go_wp2_with fail
   go_ret
   exact⟨rfl,HB.out⟩
theorem wtold_yes (a:Option Addr) (n cap:Nat) (s tr t:ByteArray) (tk mk:Int) (x:RcD) (xs:List RcD) (w:World) (hxs:SlA w 5 rgC a (x :: xs)) (hn:(x :: xs).length=n) (hk:x.k=4) (ht:x.s=t) :
  Calls Tryz.prog 8 #[.agg (RpA a n cap s tr tk mk),.string t] w fun e w'=>e=.returned (.bool true)∧Below w.heap.size w w':=by
 have hn1:0<n:=by rw[←hn];simp
 obtain⟨b,off,rfl,hbl,hcl⟩:=hxs 0 x rfl
 subst ht
 have HB0:Hid (Below w.heap.size w (w.alloc (.cells (RpA (some ⟨b,off,none⟩) n cap s tr tk mk) 27))):=bw1 _ _
 have HC:Hid (∀wr,Below w.heap.size w wr→wr.cell? ⟨b,off,none⟩=some (.int .i64 4)∧wr.cell? ⟨b,off+1,none⟩=some (.int .i64 0)∧wr.cell? ⟨b,off+2,none⟩=some (.int .i64 0)∧wr.cell? ⟨b,off+3,none⟩=some (.int .i64 x.l)∧wr.cell? ⟨b,off+4,none⟩=some (.string x.s)):=fun wr hb =>
  ⟨by have h9:=cell_later hb (hcl 0 _ rfl);rw[hk]at h9;simpa using h9,by simpa using cell_later hb (hcl 1 _ rfl),by simpa using cell_later hb (hcl 2 _ rfl),by simpa using cell_later hb (hcl 3 _ rfl),by simpa using cell_later hb (hcl 4 _ rfl)⟩
 clear hcl hxs hn hk
 go_enter Tryz.func8,Tryz.ntmps8
 go_wp2_with fail
 go_loopw [10] (fun i wr=>i=.int .i64 0∧Hid (Below w.heap.size w wr)) (fun _ _=>0)
 case atStart=>exact⟨rfl,HB0⟩
 case round =>
  obtain⟨rfl,HB⟩:=hrel
  obtain⟨c0,c1,c2,c3,c4⟩:=HC.out wr HB.out
  have HB1:Hid (Below w.heap.size w (wr.alloc (.cells #[.int .i64 4,.int .i64 0,.int .i64 0,.int .i64 x.l,.string x.s] 67))):=HB.out.trans ((bw1 _ _).mono HB.out.size)
  go_wp2_with fail
  go_ret
  exact⟨rfl,HB1.out⟩
end Go.Proofs.YtliahjnnbbgooaaGreatDoor.J
namespace Go.Proofs.YtliahjnnbbgooaaGreatDoor.J
open Go.RowKit M T U
theorem onesL_app:∀n m,onesL (n+1+(m+1))=onesL (n+1)++32 :: onesL (m+1)
 | 0,m=>by rw[show 0+1+(m+1)=m+2 by omega];rfl
 | n+1,m=>by
  rw[show n+1+1+(m+1)=(n+m+1)+2 by omega]
  show 49 :: 32 :: onesL (n+m+1+1)=(49 :: 32 :: onesL (n+1))++32 :: onesL (m+1)
  rw[show n+m+1+1=n+1+(m+1) by omega,onesL_app n m]
  rfl
theorem onesL_dbl {n:Nat} (h:1≤n):onesL (2*n)=onesL n++32 :: onesL n:=by
 obtain⟨m,rfl⟩:∃m,n=m+1:=⟨n-1,by omega⟩
 rw[show 2*(m+1)=m+1+(m+1) by omega]
 exact onesL_app m m
theorem onesB_dbl {n:Nat} (h:1≤n):onesB (2*n)=onesB n++⟨#[32]⟩++onesB n:=by
 have e:(onesB (2*n)).data.toList=(onesB n++⟨#[32]⟩++onesB n).data.toList:=by
  show (onesL (2*n)).toArray.toList=_
  simp[onesB,onesL_dbl h,ByteArray.data_append]
 have e2:(onesB (2*n)).data=(onesB n++⟨#[32]⟩++onesB n).data:=Array.toList_inj.1 e
 cases h1:onesB (2*n)
 cases h2:onesB n++⟨#[32]⟩++onesB n
 rw[h1,h2]at e2
 exact congrArg _ e2
theorem onesB_pow (k:Nat):onesB (2^(k+1))=onesB (2^k)++⟨#[32]⟩++onesB (2^k):=by
 rw[show 2^(k+1)=2*2^k by rw[Nat.pow_succ];omega]
 exact onesB_dbl (Nat.two_pow_pos k)
theorem onesL_ln {n:Nat} (h:1≤n):(onesB n).size=2*n-1:=by
 obtain⟨m,rfl⟩:∃m,n=m+1:=⟨n-1,by omega⟩
 show (onesL (m+1)).toArray.size=_
 rw[List.size_toArray,onesL_len]
 omega
theorem join_onesL:∀n,Lib.join (List.replicate (n+1) [49]) [32]=onesL (n+1)
 | 0=>by rw[show List.replicate (0+1) ([49]:List UInt8)=[[49]] from rfl,Lib.join_one];rfl
 | n+1=>by
  rw[List.replicate_succ,Lib.join_cons,List.replicate_succ]
  have h:=join_onesL n
  rw[List.replicate_succ,Lib.join_cons]at h
  show [49]++Lib.joinTail [32] ([49] :: List.replicate n [49])=49 :: 32 :: onesL (n+1)
  rw[←h]
  simp[Lib.joinTail]
theorem joinC_of (A:∀(bk o c:Nat) (xs:List ByteArray) (sep:ByteArray) (w:World),(∀(j:Nat) x,xs[j]?=some x→w.cell? ⟨bk,o+j,none⟩=some (.string x))→bk<w.heap.size→xs.length≤140737488355328→xs.length≤c→(Lib.join (xs.map (·.data.toList)) sep.data.toList).length≤140737488355328 →
  Calls Tryz.prog 168 #[.slice (some ⟨bk,o,none⟩) xs.length c,.string sep] w fun e w'=>e=.returned (.string ⟨(Lib.join (xs.map (·.data.toList)) sep.data.toList).toArray⟩)∧Below w.heap.size w w'):JoinC:=by
 intro W q n cap hc hq h2 hn hcap
 obtain⟨m,rfl⟩:∃m,n=m+1:=⟨n-1,by omega⟩
 have e:Lib.join ((List.replicate (m+1) (⟨#[49]⟩:ByteArray)).map (·.data.toList)) (⟨#[32]⟩:ByteArray).data.toList=onesL (m+1):=by
  rw[List.map_replicate]
  exact join_onesL m
 have h:=A q 0 cap (List.replicate (m+1) ⟨#[49]⟩) ⟨#[32]⟩ W (fun j x hj=>by
  have hjl:j<m+1:=by simpa using (List.getElem?_eq_some_iff.1 hj).1
  have hx:x=⟨#[49]⟩:=by
   rw[List.getElem?_replicate,if_pos hjl]at hj
   exact (Option.some.inj hj).symm
  subst hx
  rw[Nat.zero_add]
  exact hc j hjl) hq (by simp;omega) (by simpa using hcap) (by rw[e,onesL_len];omega)
 rw[e,List.length_replicate]at h
 exact h
end Go.Proofs.YtliahjnnbbgooaaGreatDoor.J
namespace Go.Proofs.YtliahjnnbbgooaaGreatDoor.M
open Go.RowKit
attribute [local go_sem] run_store_float
def byteU (u:UInt8):List Value:=[.int .u8 (u.toNat:Int)]
theorem byteU_len (u:UInt8):(byteU u).length=1:=rfl
theorem wb_any (a:Option Addr) (len cap i:Nat) (xs:List UInt8) (w:World) (hl:xs.length=len) (hp:SlA w 1 byteU a xs) (hlen:len≤1048576) (hi:i≤2) :
  Calls Tryz.prog 4 #[.slice a len cap,.int .i64 (i:Int)] w fun e w'=>(∃b:Nat,e=.returned (.int .i64 (b:Int))∧b<256)∧w'=w:=by
 by_cases h0:len=0
 ·subst h0
  go_enter Tryz.func4,Tryz.ntmps4
  go_wp2_with fail
  go_ret
  exact⟨⟨0,rfl,by omega⟩,rfl⟩
 ·have hm:i % len<len:=Nat.mod_lt _ (by omega)
  obtain⟨x,hx⟩:∃x,xs[i % len]?=some x:=⟨xs[i % len]'(by omega),by simp⟩
  obtain⟨b,off,rfl,hb,hc⟩:=hp _ x hx
  have c0:w.cell? ⟨b,off+i % len,none⟩=some (.int .u8 (x.toNat:Int)):=by have:=hc 0 _ rfl;simpa using this
  have hr:(i:Int).tmod (len:Int)=((i % len:Nat):Int):=rfl
  have hx8:x.toNat<256:=x.toNat_lt
  have b1:¬((len:Int)=0):=by omega
  have b2:((i % len:Nat):Int)<(len:Int):=by omega
  obtain⟨q,hq⟩:∃q,i % len=q:=⟨_,rfl⟩
  rw[hq]at c0 hr b2
  clear hp hc hx hm hq
  go_enter Tryz.func4,Tryz.ntmps4
  go_wp2_with fail
  go_ret
  exact⟨⟨x.toNat,rfl,hx8⟩,rfl⟩
end Go.Proofs.YtliahjnnbbgooaaGreatDoor.M
namespace Go.Proofs.YtliahjnnbbgooaaGreatDoor.J
open Go.RowKit M T U
attribute [local go_sem] run_store_float
theorem pow_le12 {b:Nat} (h:b≤12):2^b≤4096:=Nat.pow_le_pow_right (by omega) h
theorem pow_lo {k:Nat} (h:k≤7):2^k≤250:=Nat.le_trans (Nat.pow_le_pow_right (by omega) h) (by decide)
theorem pow_hi {k:Nat} (h:¬k≤7):250<2^k:=Nat.lt_of_lt_of_le (by decide) (Nat.pow_le_pow_right (n:=2) (by omega) (show 8≤k by omega))
theorem jwalk (HJ:JoinC) (a:Option Addr) (len cap:Nat) (xs:List UInt8) (ov:Addr) (w:World) (hp:SlA w 1 byteU a xs) (hl:xs.length=len) (hlay:LayAt w) (hov:OvV w (some ov)) :
  Calls Tryz.prog 3 #[.slice a len cap] w fun e w'=>e=.returned (.bool true)∧Below w.heap.size w w':=by
 by_cases hbig:1048576<len
 ·have hb2:(1048576:Int)<(len:Int):=by omega
  go_enter Tryz.func3,Tryz.ntmps3
  go_wp2_with fail
  go_ret
  exact⟨rfl,Below.refl _ _⟩
 ·have hb2:¬(1048576:Int)<(len:Int):=by omega
  have HL:Hid (LayAt w):=hlay
  have HO:Hid (OvV w (some ov)):=hov
  have HJ':Hid JoinC:=HJ
  have HW:Hid (∀i:Nat,i≤2→Calls Tryz.prog 4 #[.slice a len cap,.int .i64 (i:Int)] w fun e w'=>(∃b:Nat,e=.returned (.int .i64 (b:Int))∧b<256)∧w'=w):=fun i hi=>wb_any a len cap i xs w hl hp (by omega) hi
  clear hp hl hlay hov HJ
  go_enter Tryz.func3,Tryz.ntmps3
  go_wp2_with fail
  refine (HW.out 0 (by omega)).mono ?_
  rintro e w1 ⟨⟨b0,rfl,h0⟩,rfl⟩
  have t0:(b0:Int).tmod 13=((b0 % 13:Nat):Int):=rfl
  have l0:b0 % 13<13:=Nat.mod_lt _ (by omega)
  obtain⟨k,hk⟩:∃k,b0 % 13=k:=⟨_,rfl⟩
  rw[hk]at t0 l0
  have hk12:k≤12:=by omega
  clear hk h0 HW
  go_wp2_with fail
  go_loopw [4,5,6] (fun nv sv iv wr=>∃(b p:Nat) (s:ByteArray),iv=.int .i64 (b:Int)∧nv=.int .i64 (p:Int)∧sv=.string s∧b≤k∧wr=w1∧Hid (p=2^b∧s=onesB (2^b))) (fun _ _ iv _=>k-(intOf iv).toNat)
  case atStart=>exact⟨0,1,⟨#[49]⟩,rfl,rfl,rfl,by omega,(by first | rfl | trivial),rfl,rfl⟩
  case round =>
   obtain⟨b,p,s,rfl,rfl,rfl,hb,rfl,HP⟩:=hrel
   have hp1:p≤4096:=by rw[HP.out.1];exact pow_le12 (by omega)
   have hs1:s.size≤8192:=by rw[HP.out.2,onesL_ln (Nat.two_pow_pos b)];have:=pow_le12 (b:=b) (by omega);omega
   by_cases hbk:b<k
   ·have hbk':(b:Int)<(k:Int):=by omega
    have HP2:Hid (2*p=2^(b+1)∧s++⟨#[32]⟩++s=onesB (2^(b+1))):=⟨by rw[HP.out.1,Nat.pow_succ];omega,by rw[HP.out.2,onesB_pow]⟩
    go_wp2_with fail
    go_roundw
    case rel=>exact⟨b+1,2*p,s++⟨#[32]⟩++s,by go_num,by go_num,(by first | rfl | trivial),by omega,(by first | rfl | trivial),HP2⟩
    case measure=>simp[intOf];omega
   ·obtain rfl:b=k:=by omega
    have hbk':¬(b:Int)<(b:Int):=by omega
    go_wp2_with fail
    refine (made_j b (by omega) wr).mono ?_
    rintro e w4 ⟨⟨gp,f,rfl,hC4,hd⟩,hx4⟩
    have HB4:Hid (Below wr.heap.size wr w4):=hx4
    have HR:Hid (Calls Tryz.prog 5 #[.agg #[.slice (some ⟨gp,0,none⟩) 1 1],.agg #[.slice none 0 0,.slice none 0 0,.int .i64 9,.int .i64 1,.int .i64 9]] w4 fun e w'=>RepF b w4 e w'):=runCode_j HJ'.out gp b f ov hd (by omega) w4 hC4 (HL.out.later hx4) (HO.out.later hx4)
    clear hx4 hC4 hd
    go_wp2_with fail
    refine HR.out.mono ?_
    rintro e w5 ⟨rv,s5,tr,tk,mk,rfl,hrc,hx5⟩
    obtain⟨ra,rcap,hrv,hsl⟩:=hrc.lies rgC_len
    obtain⟨nr,hnr⟩:∃nr,(endX b).length=nr:=⟨_,rfl⟩
    rw[hnr]at hrv
    subst hrv
    have hn3:nr≤3:=by rw[←hnr];unfold endX;split<;>simp
    have HNR:Hid ((endX b).length=nr):=hnr
    have HB5:Hid (Below wr.heap.size wr w5):=HB4.out.trans (hx5.mono HB4.out.size)
    unfold repJ
    obtain⟨W6,hW6⟩:∃W6,w5.alloc (.cells (RpA ra nr rcap s5 tr tk mk) 27)=W6:=⟨_,rfl⟩
    have hb6:Below w5.heap.size w5 W6:=by rw[←hW6];exact bw1 _ _
    have HB6:Hid (Below wr.heap.size wr W6):=HB5.out.trans (hb6.mono HB5.out.size)
    have hr6:W6.heap[w5.heap.size]?=some (.cells (RpA ra nr rcap s5 tr tk mk) 27):=by rw[←hW6];exact blk_new _ _
    have HR6:Hid (W6.heap[w5.heap.size]?=some (.cells (RpA ra nr rcap s5 tr tk mk) 27)):=hr6
    have HS6:Hid (SlA W6 5 rgC ra (endX b)):=hsl.but' (S:=[]) (fun _ _ _ _=>by simp) (ButL.of_below hb6)
    obtain⟨r0,r1,r2,r3,r4,r5,r6⟩:W6.cell? ⟨w5.heap.size,0,none⟩=some (.int .i64 0)∧W6.cell? ⟨w5.heap.size,1,none⟩=some (.slice ra nr rcap)∧W6.cell? ⟨w5.heap.size,2,none⟩=some (.slice none 0 0)∧W6.cell? ⟨w5.heap.size,3,none⟩=some (.string s5)∧W6.cell? ⟨w5.heap.size,4,none⟩=some (.string tr)∧W6.cell? ⟨w5.heap.size,5,none⟩=some (.int .i64 tk)∧W6.cell? ⟨w5.heap.size,6,none⟩=some (.int .i64 mk):=by refine⟨?_,?_,?_,?_,?_,?_,?_⟩<;>(rw[blk_cell hr6];rfl)
    clear hrc hx5 hsl hb6 hr6 hnr HR
    go_wp2_with fail
    clear hW6
    refine (wprints_any ra nr rcap s5 tr tk mk (endX b) W6 HS6.out HNR.out (by omega)).mono ?_
    rintro e w7 ⟨⟨sv,rfl,ho7⟩,hx7⟩
    have HB7:Hid (Below wr.heap.size wr w7):=HB6.out.trans (hx7.mono HB6.out.size)
    have hr7:=blk_later hx7 HR6.out
    have HS7:Hid (SlA w7 5 rgC ra (endX b)):=HS6.out.but' (S:=[]) (fun _ _ _ _=>by simp) (ButL.of_below hx7)
    obtain⟨q0,q1,q2,q3,q4,q5,q6⟩:w7.cell? ⟨w5.heap.size,0,none⟩=some (.int .i64 0)∧w7.cell? ⟨w5.heap.size,1,none⟩=some (.slice ra nr rcap)∧w7.cell? ⟨w5.heap.size,2,none⟩=some (.slice none 0 0)∧w7.cell? ⟨w5.heap.size,3,none⟩=some (.string s5)∧w7.cell? ⟨w5.heap.size,4,none⟩=some (.string tr)∧w7.cell? ⟨w5.heap.size,5,none⟩=some (.int .i64 tk)∧w7.cell? ⟨w5.heap.size,6,none⟩=some (.int .i64 mk):=by refine⟨?_,?_,?_,?_,?_,?_,?_⟩<;>(rw[blk_cell hr7];rfl)
    by_cases hk7:b≤7
    ·have he:endX b=[prR b]:=if_pos hk7
     rw[he]at ho7
     have ho7':ORow w7 W6.heap.size 9 1 sC sv [onesB (2^b)]:=ho7
     obtain⟨gs,scap,rfl,_,_,hss,_,_⟩:=ho7'.open sC_len (by simp)
     obtain⟨b9,o9,e9,hlt9,hc9⟩:=hss 0 _ rfl
     have e9':gs=b9∧0=o9:=by injection e9 with e9;injection e9 with e9 e10;exact⟨e9,e10⟩
     obtain⟨rfl,rfl⟩:=e9'
     have p0:w7.cell? ⟨gs,0,none⟩=some (.string s):=by rw[HP.out.2];exact hc9 0 _ rfl
     have hpn:¬(250:Int)<(p:Int):=by have h9:=HP.out.1;have:=pow_lo hk7;omega
     have HT:Hid (Calls Tryz.prog 8 #[.agg (RpA ra nr rcap s5 tr tk mk),.string err4] w7 fun e w'=>e=.returned (.bool false)∧Below w7.heap.size w7 w'):=wtold_no ra nr rcap s5 tr err4 tk mk (endX b) w7 HS7.out HNR.out (by omega) (by rw[he];intro x hx;rw[List.mem_singleton.1 hx];show ¬(6:Int)=4;decide)
     clear hx7 hr7 ho7 ho7' hss e9 hc9 r0 r1 r2 r3 r4 r5 r6
     go_wp2_with (go_at_call 8;refine HT.out.mono ?_;rintro e w8 ⟨rfl,hx8⟩;have HX8:Hid (Below wr.heap.size wr w8):=HB7.out.trans (hx8.mono HB7.out.size);clear hx8)
     go_ret
     exact⟨rfl,HX8.out⟩
    ·have he:endX b=[thR,caR,prT]:=if_neg hk7
     rw[he]at ho7
     have ho7':ORow w7 W6.heap.size 9 1 sC sv [⟨#[116,97,98,108,101]⟩]:=ho7
     obtain⟨gs,scap,rfl,_,_,hss,_,_⟩:=ho7'.open sC_len (by simp)
     obtain⟨b9,o9,e9,hlt9,hc9⟩:=hss 0 _ rfl
     have e9':gs=b9∧0=o9:=by injection e9 with e9;injection e9 with e9 e10;exact⟨e9,e10⟩
     obtain⟨rfl,rfl⟩:=e9'
     have p0:w7.cell? ⟨gs,0,none⟩=some (.string ⟨#[116,97,98,108,101]⟩):=hc9 0 _ rfl
     have hpn:(250:Int)<(p:Int):=by have h9:=HP.out.1;have:=pow_hi hk7;omega
     have HT:Hid (Calls Tryz.prog 8 #[.agg (RpA ra nr rcap s5 tr tk mk),.string err4] w7 fun e w'=>e=.returned (.bool true)∧Below w7.heap.size w7 w'):=wtold_yes ra nr rcap s5 tr err4 tk mk thR [caR,prT] w7 (by rw[←he];exact HS7.out) (by rw[←he];exact HNR.out) rfl rfl
     clear hx7 hr7 ho7 ho7' hss e9 hc9 r0 r1 r2 r3 r4 r5 r6
     go_wp2_with (go_at_call 8;refine HT.out.mono ?_;rintro e w8 ⟨rfl,hx8⟩;have HX8:Hid (Below wr.heap.size wr w8):=HB7.out.trans (hx8.mono HB7.out.size);clear hx8)
     go_ret
     exact⟨rfl,HX8.out⟩
end Go.Proofs.YtliahjnnbbgooaaGreatDoor.J
namespace Go.Proofs.YtliahjnnbbgooaaGreatDoor.J
open Go.Shelf Go.RowKit
def lays156_ren:Go.Shelf.Ren:=⟨fun | 156=>168 | 165=>235 | 166=>236 | 169=>237 | 240=>279 | 241=>280 | 276=>311 | 277=>312 | n=>n,fun | 31=>25 | 9=>9 | 3=>3 | 4=>4 | 0=>0 | 20=>20 | 72=>345 | 76=>346 | 70=>343 | 37=>22 | 75=>41 | 127=>402 | 164=>167 | 5=>5 | 80=>161 | n=>n,fun | n=>n⟩
theorem lays156:Go.Proofs.Lays.n156 Tryz.prog lays156_ren:={
 mixed:=by kernel_rfl
 f156:=Tryz.func168.trans (congrArg some (by kernel_rfl))
 f165:=Tryz.func235.trans (congrArg some (by kernel_rfl))
 f166:=Tryz.func236.trans (congrArg some (by kernel_rfl))
 f169:=Tryz.func237.trans (congrArg some (by kernel_rfl))
 f240:=Tryz.func279.trans (congrArg some (by kernel_rfl))
 f241:=Tryz.func280.trans (congrArg some (by kernel_rfl))
 f276:=Tryz.func311.trans (congrArg some (by kernel_rfl))
 f277:=Tryz.func312.trans (congrArg some (by kernel_rfl))
 t0:=Tryz.underlying0
 a0:=Tryz.isAgg0
 z0:=Tryz.sizeOf0
 v0:=Tryz.zeroValue0
 t3:=Tryz.underlying3
 a3:=Tryz.isAgg3
 z3:=Tryz.sizeOf3
 v3:=Tryz.zeroValue3
 t4:=Tryz.underlying4
 a4:=Tryz.isAgg4
 z4:=Tryz.sizeOf4
 v4:=Tryz.zeroValue4
 t9:=Tryz.underlying9
 a9:=Tryz.isAgg9
 z9:=Tryz.sizeOf9
 v9:=Tryz.zeroValue9
 t20:=Tryz.underlying20
 a20:=Tryz.isAgg20
 z20:=Tryz.sizeOf20
 v20:=Tryz.zeroValue20
 t31:=Tryz.underlying25
 a31:=Tryz.isAgg25
 z31:=Tryz.sizeOf25
 v31:=Tryz.zeroValue25
 t37:=Tryz.underlying22
 a37:=Tryz.isAgg22
 z37:=Tryz.sizeOf22
 v37:=Tryz.zeroValue22
 t70:=Tryz.underlying343
 a70:=Tryz.isAgg343
 z70:=Tryz.sizeOf343
 v70:=Tryz.zeroValue343
 t72:=Tryz.underlying345
 a72:=Tryz.isAgg345
 z72:=Tryz.sizeOf345
 v72:=Tryz.zeroValue345
 t75:=Tryz.underlying41
 a75:=Tryz.isAgg41
 z75:=Tryz.sizeOf41
 v75:=Tryz.zeroValue41
 t76:=Tryz.underlying346
 a76:=Tryz.isAgg346
 z76:=Tryz.sizeOf346
 v76:=Tryz.zeroValue346
 t127:=Tryz.underlying402
 a127:=Tryz.isAgg402
 z127:=Tryz.sizeOf402
 v127:=Tryz.zeroValue402
 t164:=Tryz.underlying167
 a164:=Tryz.isAgg167
 z164:=Tryz.sizeOf167
 v164:=Tryz.zeroValue167 }
theorem builderExtra156:Builder.Extra Tryz.prog lays156_ren:={
 sizeBuilder:=by kernel_rfl
 liesBuilder:=by kernel_rfl
 t5:=Tryz.underlying5
 a5:=Tryz.isAgg5
 z5:=Tryz.sizeOf5
 v5:=Tryz.zeroValue5
 infoByte:=by kernel_rfl
 cellsByte:=by kernel_rfl
 sizeByte:=by kernel_rfl
 neB5:=by decide }
theorem joinC:JoinC:=joinC_of fun bk o c xs sep w h1 h2 h3 h4 h5=>Any.strings_Join lays156 builderExtra156 bk o c xs sep w h1 h2 h3 h4 h5
end Go.Proofs.YtliahjnnbbgooaaGreatDoor.J
namespace Go.Proofs.YtliahjnnbbgooaaGreatDoor
open Go.ChangeShapes Go.WideShapes Go.ChangeAt Go.RowKit
theorem spot_none {w:World} {a:Addr} {v:Value} (h:w.cell? a=some v):a=⟨a.block,a.off,none⟩:=by
 obtain⟨b,o,s⟩:=a
 cases s with
 | none=>rfl
 | some x =>
  unfold World.cell? at h
  split at h
  ·simp at h
  ·cases h
theorem list4 {α:Type} {cs:List α} (h:cs.length=4):∃c0 c1 c2 c3,cs=[c0,c1,c2,c3]:=by
 match cs,h with
 | [c0,c1,c2,c3],_=>exact⟨c0,c1,c2,c3,rfl⟩
section
variable {H:Type} {enc:TypeId × Value→H} {w:World} {base:Nat} {spare:Nat→Bool} {held:Bool}
theorem open_sl {α:Type} (x0:α) (cells:α→List Value) (k:Nat) (P:α→Prop) (st et:TypeId) (hu:Tryz.prog.underlying st=some (.slice et)) (hk:Tryz.prog.cellsOf et=k) (hk0:0<k) (hlen:∀x,(cells x).length=k)
  (ho:∀(fuel:Nat) (cs:List Value) (x:DataW H × List MemPlace),DataW.trod enc Tryz.prog w 0 spare held fuel et cs=some x→∃v,cs=cells v∧P v)
  {fuel:Nat} {sv:Value} {x:DataW H × List MemPlace} (h:DataW.trod enc Tryz.prog w 0 spare held fuel st [sv]=some x) :
  ∃(a:Option Addr) (cap:Nat) (xs:List α),sv=.slice a xs.length cap∧SlA w k cells a xs∧(∀v∈xs,P v)∧xs.length≤maxLen:=by
 rcases Deep.open_slice hu h with ⟨h0,_⟩ | ⟨a,len,cap,m,n,D,Pl,h0,hb,hl,hm,hmm,hx,hi⟩
 ·simp only[List.cons.injEq,and_true]at h0
  exact⟨none,0,[],h0,SlA.nil _ _ _ _,by simp,by simp⟩
 ·simp only[List.cons.injEq,and_true]at h0
  subst h0
  rw[hk]at hi
  have hlm:len≤m:=by rw[hmm];split<;>omega
  by_cases hz:len=0
  ·subst hz
   exact⟨some a,cap,[],rfl,SlA.nil _ _ _ _,by simp,by simp⟩
  ·haveI:Inhabited α:=⟨x0⟩
   obtain⟨f,hf⟩:=Deep.choose_lt (α:=α) (n:=len) (p:=fun i p=>P p∧∀j v,(cells p)[j]?=some v→w.cell? (a.add (i*k+j))=some v) (fun i hil=>by
    obtain⟨cs,h1,h2⟩:=hi i (by omega)
    obtain⟨p,rfl,hp⟩:=ho _ _ _ h2
    obtain⟨_,_,h3⟩:=World.cells?_some h1
    refine⟨p,hp,fun j v hv=>?_⟩
    have hj:j<k:=by have:=(List.getElem?_eq_some_iff.1 hv).1;rw[hlen]at this;exact this
    rw[←Deep.add_add,h3 j hj];exact hv)
   have h1:(cells (f 0))[0]?=some ((cells (f 0))[0]'(by rw[hlen];exact hk0)):=List.getElem?_eq_getElem _
   have h00:=(hf 0 (by omega)).2 0 _ h1
   have ha:a=⟨a.block,a.off,none⟩:=spot_none (w:=w) (by simpa [Addr.add] using h00)
   have hlt':a.block<w.heap.size:=World.block_lt_of_cell? _ _ (by simpa [Addr.add] using h00)
   refine⟨some a,cap,(List.range len).map f,?_,?_,?_,?_⟩
   ·rw[List.length_map,List.length_range]
   ·intro i p hip
    simp only[List.getElem?_map,Option.map_eq_some_iff]at hip
    obtain⟨i',hi',rfl⟩:=hip
    have hil:i<len:=by
     have:=(List.getElem?_eq_some_iff.1 hi').1
     simpa using this
    rw[List.getElem?_range hil]at hi'
    cases hi'
    refine⟨a.block,a.off,by rw[←ha],hlt',fun j v hv=>?_⟩
    have:=(hf i hil).2 j v hv
    rw[ha,Addr.add_lit]at this
    rw[Nat.add_assoc];exact this
   ·intro p hp
    simp only[List.mem_map,List.mem_range]at hp
    obtain⟨i,hil,rfl⟩:=hp
    exact (hf i hil).1
   ·rw[List.length_map,List.length_range];omega
end
end Go.Proofs.YtliahjnnbbgooaaGreatDoor
