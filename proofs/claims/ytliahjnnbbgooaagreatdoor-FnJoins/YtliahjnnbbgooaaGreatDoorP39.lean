import Derived.Test.YtliahjnnbbgooaaGreatDoorP38
import Derived.Test.YtliahjnnbbgooaaGreatDoorP31
import Derived.Test.YtliahjnnbbgooaaGreatDoorP29
import Derived.Test.YtliahjnnbbgooaaGreatDoorP33
set_option linter.unusedVariables false
set_option linter.unusedSimpArgs false
set_option maxRecDepth 20000
set_option maxHeartbeats 8000000
namespace Go.Proofs.YtliahjnnbbgooaaGreatDoor.J
open Go.RowKit M T U
def oneD:VD:=⟨2,1,0,⟨#[]⟩,0⟩
def priD:VD:=⟨8,0,0,⟨#[]⟩,0⟩
def errD:VD:=⟨5,0,0,⟨#[]⟩,0⟩
def Rg (b:List M.SD) (x y:M.SD):List M.SD:=(b.set 3 x).set 4 y
section
variable {b:List M.SD} {x y z:M.SD}
theorem Rg3 (h:b.length=250):(Rg b x y)[3]?=some x:=by unfold Rg;rw[List.getElem?_set_ne (by omega),List.getElem?_set_self (by omega)]
theorem Rg4 (h:b.length=250):(Rg b x y)[4]?=some y:=by unfold Rg;rw[List.getElem?_set_self (by rw[List.length_set];omega)]
theorem Rg0:(Rg b x y)[0]?=b[0]?:=by unfold Rg;rw[List.getElem?_set_ne (by omega),List.getElem?_set_ne (by omega)]
theorem Rg_set3:(Rg b x y).set 3 z=Rg b z y:=by unfold Rg;rw[List.set_comm _ _ (by omega),List.set_set]
theorem Rg_set4:(Rg b x y).set 4 z=Rg b x z:=by unfold Rg;rw[List.set_set]
theorem Rg_self (h3:b[3]?=some x) (h4:b[4]?=some y):Rg b x y=b:=by
 unfold Rg
 apply List.ext_getElem?
 intro i
 rw[List.getElem?_set,List.getElem?_set]
 by_cases e:4=i
 ·subst e
  have:=(List.getElem?_eq_some_iff.1 h4).1
  rw[if_pos rfl,if_pos (by rw[List.length_set];exact this),h4]
 ·rw[if_neg e]
  by_cases e3:3=i
  ·subst e3
   have:=(List.getElem?_eq_some_iff.1 h3).1
   rw[if_pos rfl,if_pos this,h3]
  ·rw[if_neg e3]
end
def Hb (tr:ByteArray):List M.SD:=(R0.set 0 (sdV errD)).set 1 (sdV (strD tr))
theorem Hb_len (tr:ByteArray):(Hb tr).length=250:=by unfold Hb;rw[List.length_set,List.length_set];exact R0_len
theorem R0_at {i:Nat} (h:i<250):R0[i]?=some sd0:=by unfold R0;rw[List.getElem?_replicate,if_pos h]
theorem R0_rg:R0=Rg R0 sd0 sd0:=(Rg_self (R0_at (by omega)) (R0_at (by omega))).symm
theorem Hb_at {tr:ByteArray} {i:Nat} (h1:1<i) (h:i<250):(Hb tr)[i]?=some sd0:=by unfold Hb;rw[List.getElem?_set_ne (by omega),List.getElem?_set_ne (by omega)];exact R0_at h
theorem Hb0 (tr:ByteArray):(Hb tr)[0]?=some (sdV errD):=by unfold Hb;rw[List.getElem?_set_ne (by omega),List.getElem?_set_self (by rw[R0_len];omega)]
theorem Hb_rg (tr:ByteArray):Hb tr=Rg (Hb tr) sd0 sd0:=(Rg_self (Hb_at (by omega) (by omega)) (Hb_at (by omega) (by omega))).symm
def onesL:Nat→List UInt8
 | 0=>[]
 | 1=>[49]
 | n+2=>49 :: 32 :: onesL (n+1)
def onesB (n:Nat):ByteArray:=⟨(onesL n).toArray⟩
abbrev err4:ByteArray:=⟨#[101,114,114,111,114,32,52]⟩
def prR (k:Nat):RcD:=⟨6,0,onesB (2^k)⟩
def thR:RcD:=⟨4,0,err4⟩
def caR:RcD:=⟨5,0,err4⟩
def prT:RcD:=⟨6,0,⟨#[116,97,98,108,101]⟩⟩
abbrev nilL:Value:=.slice none 0 0
def joiI (k:Nat):List ID:=[⟨31,10+k,0,0,0⟩,⟨4,3,0,0,0⟩,⟨22,4,0,0,0⟩,⟨23,4,-4,0,0⟩]++(List.replicate k ⟨24,4,4,0,0⟩++[⟨4,3,1,0,0⟩,⟨28,4,-4,-5,0⟩,⟨42,4,0,0,0⟩,⟨32,0,0,0,0⟩,⟨22,3,0,0,0⟩,⟨29,-4,0,0,0⟩,⟨4,3,1,0,0⟩,⟨22,4,0,0,0⟩,⟨23,4,0,0,0⟩,⟨28,4,-4,-5,0⟩,⟨42,4,0,0,0⟩,⟨22,3,0,0,0⟩,⟨29,-4,0,0,0⟩])
theorem joi_lo {k a:Nat} (h:a<4):(joiI k)[a]?=([⟨31,10+k,0,0,0⟩,⟨4,3,0,0,0⟩,⟨22,4,0,0,0⟩,⟨23,4,-4,0,0⟩]:List ID)[a]?:=by
 unfold joiI;rw[List.getElem?_append_left (by simpa using h)]
theorem joi_mid {k j:Nat} (h:j<k):(joiI k)[4+j]?=some ⟨24,4,4,0,0⟩:=by
 unfold joiI
 rw[List.getElem?_append_right (by simp),List.getElem?_append_left (by simp;omega),List.getElem?_replicate,if_pos (by simp;omega)]
theorem joi_hi {k j:Nat}:(joiI k)[4+k+j]?=([⟨4,3,1,0,0⟩,⟨28,4,-4,-5,0⟩,⟨42,4,0,0,0⟩,⟨32,0,0,0,0⟩,⟨22,3,0,0,0⟩,⟨29,-4,0,0,0⟩,⟨4,3,1,0,0⟩,⟨22,4,0,0,0⟩,⟨23,4,0,0,0⟩,⟨28,4,-4,-5,0⟩,⟨42,4,0,0,0⟩,⟨22,3,0,0,0⟩,⟨29,-4,0,0,0⟩]:List ID)[j]?:=by
 unfold joiI
 rw[List.getElem?_append_right (by simp;omega),List.getElem?_append_right (by simp;omega)]
 congr 1
 simp
 omega
theorem joi_len (k:Nat):(joiI k).length=17+k:=by unfold joiI;simp;omega
def JP (k:Nat) (w:World) (a:Nat) (tk:Nat) (xs:List RcD) (rs:List M.SD) (gl:List (Nat × Int)) (ts:List Nat):Prop :=
 (a=0∧tk=0∧xs=([]:List RcD)∧rs=((Rg R0 sd0 sd0):List M.SD)∧gl=([]:List (Nat × Int))∧ts=([]:List Nat)) ∨
 (∃(g:Nat),a=1∧tk=0∧xs=([]:List RcD)∧rs=((Rg R0 sd0 sd0):List M.SD)∧gl=([(g,10+k)]:List (Nat × Int))∧ts=([]:List Nat)) ∨
 (∃(g:Nat),a=2∧tk=0∧xs=([]:List RcD)∧rs=((Rg R0 (sdV oneD) sd0):List M.SD)∧gl=([(g,10+k)]:List (Nat × Int))∧ts=([]:List Nat)) ∨
 (∃(g:Nat),a=3∧tk=0∧xs=([]:List RcD)∧rs=((Rg R0 (sdV oneD) (sdL nilL)):List M.SD)∧gl=([(g,10+k)]:List (Nat × Int))∧ts=([]:List Nat)) ∨
 (∃(g:Nat) (j:Nat) (q:Nat) (cap:Nat),(j≤k)∧(j≤7)∧(2^j≤cap)∧(LsAt w q (List.replicate (2^j) oneD))∧a=(4+j)∧tk=0∧xs=([]:List RcD)∧rs=((Rg R0 sd0 (sdL (.slice (some ⟨q,0,none⟩) (2^j) cap))):List M.SD)∧gl=([(g,10+k)]:List (Nat × Int))∧ts=([]:List Nat)) ∨
 (∃(g:Nat) (q:Nat) (cap:Nat),(k≤7)∧(2^k≤cap)∧(LsAt w q (List.replicate (2^k) oneD))∧a=(4+k+1)∧tk=0∧xs=([]:List RcD)∧rs=((Rg R0 (sdV priD) (sdL (.slice (some ⟨q,0,none⟩) (2^k) cap))):List M.SD)∧gl=([(g,10+k)]:List (Nat × Int))∧ts=([]:List Nat)) ∨
 (∃(g:Nat),(k≤7)∧a=(4+k+2)∧tk=1∧xs=([prR k]:List RcD)∧rs=((Rg R0 sd0 (sdL nilL)):List M.SD)∧gl=([(g,10+k)]:List (Nat × Int))∧ts=([]:List Nat)) ∨
 (∃(g:Nat),(k≤7)∧a=(4+k+3)∧tk=1∧xs=([prR k]:List RcD)∧rs=((Rg R0 sd0 sd0):List M.SD)∧gl=([(g,10+k)]:List (Nat × Int))∧ts=([]:List Nat)) ∨
 ((k≤7)∧a=(4+k+4)∧tk=1∧xs=([prR k]:List RcD)∧rs=((Rg R0 sd0 sd0):List M.SD)∧gl=([]:List (Nat × Int))∧ts=([]:List Nat)) ∨
 ((k≤7)∧a=(4+k+5)∧tk=1∧xs=([prR k]:List RcD)∧rs=((Rg R0 (sdL nilL) sd0):List M.SD)∧gl=([]:List (Nat × Int))∧ts=([]:List Nat)) ∨
 (∃(gn:Nat) (tr:ByteArray),(7<k)∧a=(4+k+6)∧tk=0∧xs=([thR,caR]:List RcD)∧rs=((Rg (Hb tr) sd0 sd0):List M.SD)∧gl=([]:List (Nat × Int))∧ts=([gn]:List Nat)) ∨
 (∃(gn:Nat) (tr:ByteArray),(7<k)∧a=(4+k+7)∧tk=0∧xs=([thR,caR]:List RcD)∧rs=((Rg (Hb tr) (sdV priD) sd0):List M.SD)∧gl=([]:List (Nat × Int))∧ts=([gn]:List Nat)) ∨
 (∃(gn:Nat) (tr:ByteArray),(7<k)∧a=(4+k+8)∧tk=0∧xs=([thR,caR]:List RcD)∧rs=((Rg (Hb tr) (sdV priD) (sdL nilL)):List M.SD)∧gl=([]:List (Nat × Int))∧ts=([gn]:List Nat)) ∨
 (∃(gn:Nat) (tr:ByteArray) (q:Nat) (cap:Nat),(7<k)∧(1≤cap)∧(LsAt w q [errD])∧a=(4+k+9)∧tk=0∧xs=([thR,caR]:List RcD)∧rs=((Rg (Hb tr) (sdV priD) (sdL (.slice (some ⟨q,0,none⟩) 1 cap))):List M.SD)∧gl=([]:List (Nat × Int))∧ts=([gn]:List Nat)) ∨
 (∃(gn:Nat) (tr:ByteArray),(7<k)∧a=(4+k+10)∧tk=1∧xs=([thR,caR,prT]:List RcD)∧rs=((Rg (Hb tr) sd0 (sdL nilL)):List M.SD)∧gl=([]:List (Nat × Int))∧ts=([gn]:List Nat)) ∨
 (∃(gn:Nat) (tr:ByteArray),(7<k)∧a=(4+k+11)∧tk=1∧xs=([thR,caR,prT]:List RcD)∧rs=((Rg (Hb tr) sd0 sd0):List M.SD)∧gl=([]:List (Nat × Int))∧ts=([gn]:List Nat)) ∨
 (∃(gn:Nat) (tr:ByteArray),(7<k)∧a=(4+k+12)∧tk=1∧xs=([thR,caR,prT]:List RcD)∧rs=((Rg (Hb tr) (sdL nilL) sd0):List M.SD)∧gl=([]:List (Nat × Int))∧ts=([gn]:List Nat))
theorem JP.p0 {k:Nat} {w:World}  : JP k w 0 0 [] (Rg R0 sd0 sd0) [] []:=.inl ⟨rfl,rfl,rfl,rfl,rfl,rfl⟩
theorem JP.p1 {k:Nat} {w:World} (g:Nat):JP k w 1 0 [] (Rg R0 sd0 sd0) [(g,10+k)] []:=.inr (.inl ⟨g,rfl,rfl,rfl,rfl,rfl,rfl⟩)
theorem JP.p2 {k:Nat} {w:World} (g:Nat):JP k w 2 0 [] (Rg R0 (sdV oneD) sd0) [(g,10+k)] []:=.inr (.inr (.inl ⟨g,rfl,rfl,rfl,rfl,rfl,rfl⟩))
theorem JP.p3 {k:Nat} {w:World} (g:Nat):JP k w 3 0 [] (Rg R0 (sdV oneD) (sdL nilL)) [(g,10+k)] []:=.inr (.inr (.inr (.inl ⟨g,rfl,rfl,rfl,rfl,rfl,rfl⟩)))
theorem JP.p4 {k:Nat} {w:World} (g:Nat) (j:Nat) (q:Nat) (cap:Nat) (h0:j≤k) (h1:j≤7) (h2:2^j≤cap) (h3:LsAt w q (List.replicate (2^j) oneD)):JP k w (4+j) 0 [] (Rg R0 sd0 (sdL (.slice (some ⟨q,0,none⟩) (2^j) cap))) [(g,10+k)] []:=.inr (.inr (.inr (.inr (.inl ⟨g,j,q,cap,h0,h1,h2,h3,rfl,rfl,rfl,rfl,rfl,rfl⟩))))
theorem JP.p5 {k:Nat} {w:World} (g:Nat) (q:Nat) (cap:Nat) (h0:k≤7) (h1:2^k≤cap) (h2:LsAt w q (List.replicate (2^k) oneD)):JP k w (4+k+1) 0 [] (Rg R0 (sdV priD) (sdL (.slice (some ⟨q,0,none⟩) (2^k) cap))) [(g,10+k)] []:=.inr (.inr (.inr (.inr (.inr (.inl ⟨g,q,cap,h0,h1,h2,rfl,rfl,rfl,rfl,rfl,rfl⟩)))))
theorem JP.p6 {k:Nat} {w:World} (g:Nat) (h0:k≤7):JP k w (4+k+2) 1 [prR k] (Rg R0 sd0 (sdL nilL)) [(g,10+k)] []:=.inr (.inr (.inr (.inr (.inr (.inr (.inl ⟨g,h0,rfl,rfl,rfl,rfl,rfl,rfl⟩))))))
theorem JP.p7 {k:Nat} {w:World} (g:Nat) (h0:k≤7):JP k w (4+k+3) 1 [prR k] (Rg R0 sd0 sd0) [(g,10+k)] []:=.inr (.inr (.inr (.inr (.inr (.inr (.inr (.inl ⟨g,h0,rfl,rfl,rfl,rfl,rfl,rfl⟩)))))))
theorem JP.p8 {k:Nat} {w:World} (h0:k≤7):JP k w (4+k+4) 1 [prR k] (Rg R0 sd0 sd0) [] []:=.inr (.inr (.inr (.inr (.inr (.inr (.inr (.inr (.inl ⟨h0,rfl,rfl,rfl,rfl,rfl,rfl⟩))))))))
theorem JP.p9 {k:Nat} {w:World} (h0:k≤7):JP k w (4+k+5) 1 [prR k] (Rg R0 (sdL nilL) sd0) [] []:=.inr (.inr (.inr (.inr (.inr (.inr (.inr (.inr (.inr (.inl ⟨h0,rfl,rfl,rfl,rfl,rfl,rfl⟩)))))))))
theorem JP.q0 {k:Nat} {w:World} (gn:Nat) (tr:ByteArray) (h0:7<k):JP k w (4+k+6) 0 [thR,caR] (Rg (Hb tr) sd0 sd0) [] [gn]:=.inr (.inr (.inr (.inr (.inr (.inr (.inr (.inr (.inr (.inr (.inl ⟨gn,tr,h0,rfl,rfl,rfl,rfl,rfl,rfl⟩))))))))))
theorem JP.q1 {k:Nat} {w:World} (gn:Nat) (tr:ByteArray) (h0:7<k):JP k w (4+k+7) 0 [thR,caR] (Rg (Hb tr) (sdV priD) sd0) [] [gn]:=.inr (.inr (.inr (.inr (.inr (.inr (.inr (.inr (.inr (.inr (.inr (.inl ⟨gn,tr,h0,rfl,rfl,rfl,rfl,rfl,rfl⟩)))))))))))
theorem JP.q2 {k:Nat} {w:World} (gn:Nat) (tr:ByteArray) (h0:7<k):JP k w (4+k+8) 0 [thR,caR] (Rg (Hb tr) (sdV priD) (sdL nilL)) [] [gn]:=.inr (.inr (.inr (.inr (.inr (.inr (.inr (.inr (.inr (.inr (.inr (.inr (.inl ⟨gn,tr,h0,rfl,rfl,rfl,rfl,rfl,rfl⟩))))))))))))
theorem JP.q3 {k:Nat} {w:World} (gn:Nat) (tr:ByteArray) (q:Nat) (cap:Nat) (h0:7<k) (h1:1≤cap) (h2:LsAt w q [errD]):JP k w (4+k+9) 0 [thR,caR] (Rg (Hb tr) (sdV priD) (sdL (.slice (some ⟨q,0,none⟩) 1 cap))) [] [gn]:=.inr (.inr (.inr (.inr (.inr (.inr (.inr (.inr (.inr (.inr (.inr (.inr (.inr (.inl ⟨gn,tr,q,cap,h0,h1,h2,rfl,rfl,rfl,rfl,rfl,rfl⟩)))))))))))))
theorem JP.q4 {k:Nat} {w:World} (gn:Nat) (tr:ByteArray) (h0:7<k):JP k w (4+k+10) 1 [thR,caR,prT] (Rg (Hb tr) sd0 (sdL nilL)) [] [gn]:=.inr (.inr (.inr (.inr (.inr (.inr (.inr (.inr (.inr (.inr (.inr (.inr (.inr (.inr (.inl ⟨gn,tr,h0,rfl,rfl,rfl,rfl,rfl,rfl⟩))))))))))))))
theorem JP.q5 {k:Nat} {w:World} (gn:Nat) (tr:ByteArray) (h0:7<k):JP k w (4+k+11) 1 [thR,caR,prT] (Rg (Hb tr) sd0 sd0) [] [gn]:=.inr (.inr (.inr (.inr (.inr (.inr (.inr (.inr (.inr (.inr (.inr (.inr (.inr (.inr (.inr (.inl ⟨gn,tr,h0,rfl,rfl,rfl,rfl,rfl,rfl⟩)))))))))))))))
theorem JP.q6 {k:Nat} {w:World} (gn:Nat) (tr:ByteArray) (h0:7<k):JP k w (4+k+12) 1 [thR,caR,prT] (Rg (Hb tr) (sdL nilL) sd0) [] [gn]:=.inr (.inr (.inr (.inr (.inr (.inr (.inr (.inr (.inr (.inr (.inr (.inr (.inr (.inr (.inr (.inr ⟨gn,tr,h0,rfl,rfl,rfl,rfl,rfl,rfl⟩)))))))))))))))
theorem JP.keep {k:Nat} {w w':World} {a tk:Nat} {xs:List RcD} {rs:List M.SD} {gl:List (Nat × Int)} {ts:List Nat} (h:JP k w a tk xs rs gl ts) (hk:∀g ys,LsAt w g ys→LsAt w' g ys):JP k w' a tk xs rs gl ts:=by
 rcases h with ⟨rfl,rfl,rfl,rfl,rfl,rfl⟩ | ⟨g,rfl,rfl,rfl,rfl,rfl,rfl⟩ | ⟨g,rfl,rfl,rfl,rfl,rfl,rfl⟩ | ⟨g,rfl,rfl,rfl,rfl,rfl,rfl⟩ | ⟨g,j,q,cap,a,b,c,d,rfl,rfl,rfl,rfl,rfl,rfl⟩ | ⟨g,q,cap,a,b,c,rfl,rfl,rfl,rfl,rfl,rfl⟩ | ⟨g,a,rfl,rfl,rfl,rfl,rfl,rfl⟩ | ⟨g,a,rfl,rfl,rfl,rfl,rfl,rfl⟩ | ⟨a,rfl,rfl,rfl,rfl,rfl,rfl⟩ | ⟨a,rfl,rfl,rfl,rfl,rfl,rfl⟩ | ⟨gn,tr,a,rfl,rfl,rfl,rfl,rfl,rfl⟩ | ⟨gn,tr,a,rfl,rfl,rfl,rfl,rfl,rfl⟩ | ⟨gn,tr,a,rfl,rfl,rfl,rfl,rfl,rfl⟩ | ⟨gn,tr,q,cap,a,b,c,rfl,rfl,rfl,rfl,rfl,rfl⟩ | ⟨gn,tr,a,rfl,rfl,rfl,rfl,rfl,rfl⟩ | ⟨gn,tr,a,rfl,rfl,rfl,rfl,rfl,rfl⟩ | ⟨gn,tr,a,rfl,rfl,rfl,rfl,rfl,rfl⟩
 ·exact .p0
 ·exact .p1 g
 ·exact .p2 g
 ·exact .p3 g
 ·exact .p4 g j q cap a b c (hk _ _ d)
 ·exact .p5 g q cap a b (hk _ _ c)
 ·exact .p6 g a
 ·exact .p7 g a
 ·exact .p8 a
 ·exact .p9 a
 ·exact .q0 gn tr a
 ·exact .q1 gn tr a
 ·exact .q2 gn tr a
 ·exact .q3 gn tr q cap a b (hk _ _ c)
 ·exact .q4 gn tr a
 ·exact .q5 gn tr a
 ·exact .q6 gn tr a
theorem JP.le {k:Nat} {w:World} {a tk:Nat} {xs:List RcD} {rs:List M.SD} {gl:List (Nat × Int)} {ts:List Nat} (h:JP k w a tk xs rs gl ts):a≤16+k:=by
 rcases h with ⟨rfl,rfl,rfl,rfl,rfl,rfl⟩ | ⟨_,rfl,rfl,rfl,rfl,rfl,rfl⟩ | ⟨_,rfl,rfl,rfl,rfl,rfl,rfl⟩ | ⟨_,rfl,rfl,rfl,rfl,rfl,rfl⟩ | ⟨_,_,_,_,_,_,_,_,rfl,rfl,rfl,rfl,rfl,rfl⟩ | ⟨_,_,_,_,_,_,rfl,rfl,rfl,rfl,rfl,rfl⟩ | ⟨_,_,rfl,rfl,rfl,rfl,rfl,rfl⟩ | ⟨_,_,rfl,rfl,rfl,rfl,rfl,rfl⟩ | ⟨_,rfl,rfl,rfl,rfl,rfl,rfl⟩ | ⟨_,rfl,rfl,rfl,rfl,rfl,rfl⟩ | ⟨_,_,_,rfl,rfl,rfl,rfl,rfl,rfl⟩ | ⟨_,_,_,rfl,rfl,rfl,rfl,rfl,rfl⟩ | ⟨_,_,_,rfl,rfl,rfl,rfl,rfl,rfl⟩ | ⟨_,_,_,_,_,_,_,rfl,rfl,rfl,rfl,rfl,rfl⟩ | ⟨_,_,_,rfl,rfl,rfl,rfl,rfl,rfl⟩ | ⟨_,_,_,rfl,rfl,rfl,rfl,rfl,rfl⟩ | ⟨_,_,_,rfl,rfl,rfl,rfl,rfl,rfl⟩<;>omega
section
variable {w0:World} {K:UK} {w w':World} {tk:Nat} {xs:List RcD} {ln at' next:Int} {rs:List M.SD} {gl:List (Nat × Int)} {rv gv tv:Value} {ts:List Nat}
theorem JX.ls (ok:UKok w0 K) (h:JX w0 K w tk xs ln at' next rs gl rv gv tv ts) (hb:ButL (twr K rv gv) w w'):∀g ys,LsAt w g ys→LsAt w' g ys:=by
 intro g ys hl
 obtain⟨arr,h1,h2⟩:=hl
 exact⟨arr,h.keep ok hb h1 (by decide) (by decide) (by decide) (by decide),h2⟩
theorem JX.lsf (ok:UKok w0 K) (h:JX w0 K w tk xs ln at' next rs gl rv gv tv ts) (hb:ButL [K.gf] w w'):∀g ys,LsAt w g ys→LsAt w' g ys :=
 h.ls ok (h.sub hb (fun g hg=>by simp at hg;subst hg;simp[twr]))
end
end Go.Proofs.YtliahjnnbbgooaaGreatDoor.J
namespace Go.Proofs.YtliahjnnbbgooaaGreatDoor
open Go.RowKit
end Go.Proofs.YtliahjnnbbgooaaGreatDoor
namespace Go.Proofs.YtliahjnnbbgooaaGreatDoor.M
open Go.RowKit
abbrev RD:Type:=Nat ⊕ (Int ⊕ Bool)
abbrev RD.no:RD:=.inr (.inr false)
abbrev RD.tab (r:Nat):RD:=.inl r
def RD.sd:RD→SD
 | .inr (.inr false)=>sd0
 | .inl r=>sdV (tabV r)
 | .inr (.inl n)=>sdV (intD n)
 | .inr (.inr true)=>sdL (.slice none 0 0)
structure PS where
 at':Nat
 regs:List RD
 nt:Nat
 ng:Nat
structure MK where
 gm:Nat
 gf:Nat
 gt:Nat
 gk:Nat
 gch:Nat
 ta:Array Value
 ka:Array Value
 m0:MachD
 c0:CallD
def MK.m (K:MK) (z:Int) (tv:Value):MachD:={ K.m0 with since:=z,made:=z,tables:=tv }
def MK.c (K:MK) (at' next:Int) (gv:Value) (rs:List SD):CallD:={ K.c0 with at':=at',next:=next,guards:=gv,regs:=rs }
structure MX (w0:World) (K:MK) (w:World) (nt:Nat) (at' next:Int) (regs:List RD) (vs:List Value) (gs:List Nat) (tv gv:Value):Prop where
 bel:Below w0.heap.size w0 w
 geM:w0.heap.size≤K.gm
 geF:w0.heap.size≤K.gf
 mac:MachAt w K.gm (K.m nt tv)
 cal:CallAt w K.gf (K.c at' next gv (regs.map RD.sd))
 tsk:w.heap[K.gt]?=some (.cells K.ta 115)
 row:w.heap[K.gk]?=some (.cells K.ka 85)
 cha:w.heap[K.gch]?=some (.chan 0 #[] false 0 0 false)
 gu:ORow w w0.heap.size 277 1 vC gv vs
 tb:ORow w w0.heap.size 249 1 pC tv gs
 sh:∀g∈gs,w.heap[g]?=some ShO
 lg:gs.length=nt
 lr:regs.length=250
def wr (K:MK) (tv gv:Value):List Nat:=K.gm :: K.gf :: (gv.ownBlock.toList++tv.ownBlock.toList)
theorem ne_chan {w:World} {g g':Nat} {a:Array Value} {t:TypeId} {c:Nat} {b:Array Value} {x:Bool} {s r:Nat} {y:Bool} (h:w.heap[g]?=some (.cells a t)) (h':w.heap[g']?=some (.chan c b x s r y)):g'≠g:=by
 rintro rfl
 rw[h]at h'
 cases h'
theorem own_blk {α:Type} {w:World} {B:Nat} {et:TypeId} {k:Nat} {cells:α→List Value} {sv:Value} {xs:List α} (ho:ORow w B et k cells sv xs) {g:Nat} (h:sv.ownBlock=some g):B≤g∧∃cur,w.heap[g]?=some (.cells cur et):=by
 rcases ho.2 with ⟨e1,_⟩ | ⟨g0,c0,cur,e1,e2,e3,_⟩
 ·rw[e1]at h;cases h
 ·rw[e1]at h
  have e':g0=g:=Option.some.inj h
  subst e'
  exact⟨e2,cur,e3⟩
theorem MX.wrTy {w0:World} {K:MK} {w:World} {nt:Nat} {at' next:Int} {regs:List RD} {vs:List Value} {gs:List Nat} {tv gv:Value} (h:MX w0 K w nt at' next regs vs gs tv gv):∀g∈wr K tv gv,w0.heap.size≤g∧∃a t,w.heap[g]?=some (.cells a t)∧(t=97∨t=152∨t=277∨t=249):=by
 intro g hg
 simp only[wr,List.mem_cons,List.mem_append,Option.mem_toList]at hg
 rcases hg with rfl | rfl | hg | hg
 ·exact⟨h.geM,_,_,h.mac,.inl rfl⟩
 ·exact⟨h.geF,_,_,h.cal,.inr (.inl rfl)⟩
 ·obtain⟨h1,cur,h2⟩:=own_blk h.gu hg
  exact⟨h1,_,_,h2,.inr (.inr (.inl rfl))⟩
 ·obtain⟨h1,cur,h2⟩:=own_blk h.tb hg
  exact⟨h1,_,_,h2,.inr (.inr (.inr rfl))⟩
theorem MX.stay {w0:World} {K:MK} {w w':World} {nt:Nat} {at' next:Int} {regs:List RD} {vs:List Value} {gs:List Nat} {tv gv:Value} (h:MX w0 K w nt at' next regs vs gs tv gv) (hb:ButL (wr K tv gv) w w') :
  Below w0.heap.size w0 w'∧w'.heap[K.gt]?=some (.cells K.ta 115)∧w'.heap[K.gk]?=some (.cells K.ka 85)∧w'.heap[K.gch]?=some (.chan 0 #[] false 0 0 false)∧∀g∈gs,w'.heap[g]?=some ShO:=by
 have hS:=h.wrTy
 have hty:∀(q:Nat) (b:Array Value) (u:TypeId),w.heap[q]?=some (.cells b u)→u≠97→u≠152→u≠277→u≠249→w'.heap[q]?=some (.cells b u):=by
  intro q b u hq n1 n2 n3 n4
  refine hb.blk hq (fun hm=>?_)
  obtain⟨_,a,t,ht,hc⟩:=hS q hm
  rw[hq]at ht
  injection ht with ht
  injection ht with _ ht
  subst ht
  rcases hc with e | e | e | e
  ·exact n1 e
  ·exact n2 e
  ·exact n3 e
  ·exact n4 e
 refine⟨hb.below h.bel (fun g hg=>(hS g hg).1) h.bel.size,hty _ _ _ h.tsk (by decide) (by decide) (by decide) (by decide),hty _ _ _ h.row (by decide) (by decide) (by decide) (by decide),hb.blk h.cha (fun hm=>?_),fun g hg=>hty _ _ _ (h.sh g hg) (by decide) (by decide) (by decide) (by decide)⟩
 obtain⟨_,a,t,ht,_⟩:=hS _ hm
 exact ne_chan ht h.cha rfl
end Go.Proofs.YtliahjnnbbgooaaGreatDoor.M
namespace Go.Proofs.YtliahjnnbbgooaaGreatDoor.M
open Go.RowKit
section
variable {w0:World} {K:MK} {w w':World} {nt:Nat} {at' next:Int} {regs:List RD} {vs:List Value} {gs:List Nat} {tv gv:Value}
theorem MX.mf (h:MX w0 K w nt at' next regs vs gs tv gv):K.gm≠K.gf:=ne_ty h.mac h.cal (by decide)
theorem MX.call (h:MX w0 K w nt at' next regs vs gs tv gv) {at2 next2:Int} {regs2:List RD} (hb:ButL [K.gf] w w') (hc:CallAt w' K.gf (K.c at2 next2 gv (regs2.map RD.sd))) (hl:regs2.length=250):MX w0 K w' nt at2 next2 regs2 vs gs tv gv:=by
 obtain⟨s1,s2,s3,s4,s5⟩:=h.stay (hb.mono (fun g hg=>.inl (by simp at hg;subst hg;simp[wr])))
 exact⟨s1,h.geM,h.geF,h.mac.but hb (by simp;exact h.mf),hc,s2,s3,s4,ORow.butn h.gu hb (fun g e hg=>by simp at hg;subst hg;exact own_ne h.gu h.cal (by decide) e),ORow.butn h.tb hb (fun g e hg=>by simp at hg;subst hg;exact own_ne h.tb h.cal (by decide) e),s5,h.lg,hl⟩
theorem MX.guard (h:MX w0 K w nt at' next regs vs gs tv gv) {gv2:Value} {vs2:List Value} (hb:ButL (K.gf :: gv.ownBlock.toList) w w') (hc:CallAt w' K.gf (K.c at' next gv2 (regs.map RD.sd))) (hg:ORow w' w0.heap.size 277 1 vC gv2 vs2):MX w0 K w' nt at' next regs vs2 gs tv gv2:=by
 have hS:∀g∈K.gf :: gv.ownBlock.toList,g∈wr K tv gv:=fun g hg=>by
  simp only[List.mem_cons,Option.mem_toList]at hg
  simp only[wr,List.mem_cons,List.mem_append,Option.mem_toList]
  rcases hg with e | e
  ·exact .inr (.inl e)
  ·exact .inr (.inr (.inl e))
 obtain⟨s1,s2,s3,s4,s5⟩:=h.stay (hb.mono (fun g hg=>.inl (hS g hg)))
 refine⟨s1,h.geM,h.geF,h.mac.but hb ?_,hc,s2,s3,s4,hg,ORow.butn h.tb hb (fun g e hg=>?_),s5,h.lg,h.lr⟩
 ·simp only[List.mem_cons,Option.mem_toList,not_or]
  exact⟨h.mf,own_ne h.gu h.mac (by decide)⟩
 ·simp only[List.mem_cons,Option.mem_toList]at hg
  rcases hg with rfl | hg
  ·exact own_ne h.tb h.cal (by decide) e
  ·obtain⟨_,cur,h2⟩:=own_blk h.gu hg
   exact own_ne h.tb h2 (by decide) e
end
theorem flat_vC:∀xs:List Value,xs.flatMap vC=xs
 | []=>rfl
 | x :: xs=>by rw[List.flatMap_cons,flat_vC xs];rfl
theorem vrow_shrink {w:World} {B:Nat} {et:TypeId} {g cap:Nat} {xs:List Value} (h:ORow w B et 1 vC (.slice (some ⟨g,0,none⟩) xs.length cap) xs) {m:Nat} (hm:m≤xs.length):ORow w B et 1 vC (.slice (some ⟨g,0,none⟩) m cap) (xs.take m):=by
 have hl:(xs.take m).length=m:=by rw[List.length_take];omega
 obtain⟨h1,h2⟩:=h
 unfold ORow
 rw[hl,flat_vC]
 refine⟨by rw[hl];omega,?_⟩
 rcases h2 with ⟨e,_⟩ | ⟨g',c',cur,e,hb,hg,hl',hm',hs,ht⟩
 ·cases e
 ·injection e with e1 _ e3
  injection e1 with e1
  injection e1 with e1
  subst e1 e3
  refine .inr ⟨g,cap,cur,rfl,hb,hg,by omega,hm',hs,?_⟩
  rw[flat_vC]at ht
  rw[Nat.mul_one]at ht ⊢
  rw[←ht,List.take_take]
  congr 1
  omega
section
variable {w0:World} {K:MK} {w:World} {nt ng at':Nat} {regs:List RD} {vs:List Value} {gs:List Nat} {tv gv:Value} {n:ID} {s:PS}
theorem cf31 (args:Array Value) (W:World):(callFunc 73 args).run Tryz.prog W=.ok (.enter 73 args) W:=by kernel_rfl
theorem cf42 (args:Array Value) (W:World):(callFunc 83 args).run Tryz.prog W=.ok (.enter 83 args) W:=by kernel_rfl
theorem cf32 (args:Array Value) (W:World):(callFunc 74 args).run Tryz.prog W=.ok (.enter 74 args) W:=by kernel_rfl
theorem cf22 (args:Array Value) (W:World):(callFunc 67 args).run Tryz.prog W=.ok (.enter 67 args) W:=by kernel_rfl
theorem cf29 (args:Array Value) (W:World):(callFunc 71 args).run Tryz.prog W=.ok (.enter 71 args) W:=by kernel_rfl
end
end Go.Proofs.YtliahjnnbbgooaaGreatDoor.M
namespace Go.Proofs.YtliahjnnbbgooaaGreatDoor.J
open Go.RowKit M T U
def GoJ (w0:World) (K:UK) (k a:Nat) (e:Ending) (w':World):Prop:=e=.returned .nilIface∧∃(tk:Nat) (xs:List RcD) (at2:Nat) (ax:Int) (rs:List M.SD) (gl:List (Nat × Int)) (rv gv tv:Value) (ts:List Nat),JX w0 K w' tk xs 0 ax (at2:Int) rs gl rv gv tv ts∧JP k w' at2 tk xs rs gl ts∧a<at2
def ThJ (w0:World) (K:UK) (k a:Nat) (e:Ending) (w':World):Prop:=∃gr,e=.returned (.iface 112 (.pointer (some ⟨gr,0,none⟩)))∧Calls Tryz.prog 103 #[.pointer (some ⟨K.gm,0,none⟩),.pointer (some ⟨K.gf,0,none⟩),.iface 112 (.pointer (some ⟨gr,0,none⟩))] w' (GoJ w0 K k a)
def endX (k:Nat):List RcD:=if k≤7 then [prR k] else [thR,caR,prT]
def ReJ (w0:World) (K:UK) (k:Nat) (e:Ending) (w':World):Prop:=∃gr,e=.returned (.iface 124 (.pointer (some ⟨gr,0,none⟩)))∧w0.heap.size≤gr∧w'.heap[gr]?=some (.cells #[.slice none 0 0] 126)∧∃(ax nx:Int) (rs:List M.SD) (rv gv tv:Value) (ts:List Nat),JX w0 K w' 1 (endX k) 0 ax nx rs [] rv gv tv ts
structure ConJ (w0:World) (K:UK):Prop where
 con:∃cb co ccap,K.c0.consts=.slice (some ⟨cb,co,none⟩) 2 ccap∧cb<w0.heap.size∧∀(j:Nat) v,[oneD,priD][j]?=some v→∀q u,v.cells[q]?=some u→w0.cell? ⟨cb,co+j*5+q,none⟩=some u
abbrev argj (K:UK) (i:ID):Array Value:=#[.pointer (some ⟨K.gm,0,none⟩),.pointer (some ⟨K.gf,0,none⟩),insV i]
section
variable {w0:World} {K:UK} {k a tk:Nat} {rs rs2:List M.SD} {gl:List (Nat × Int)} {i:ID} {w w1:World} {xs:List RcD} {rv gv tv:Value} {ts:List Nat}
theorem GoJ.call (ok:UKok w0 K) (h:JX w0 K w tk xs 0 (a:Int) ((a:Int)+1) rs gl rv gv tv ts) (hb:ButL [K.gf] w w1) (hc:CallAt w1 K.gf (K.c 0 a ((a:Int)+1) gv rs2)) (hl:rs2.length=250) (hp:JP k w1 (a+1) tk xs rs2 gl ts):GoJ w0 K k a (.returned .nilIface) w1 :=
 ⟨rfl,tk,xs,a+1,a,rs2,gl,rv,gv,tv,ts,h.call ok hb hc hl,hp,by omega⟩
theorem g4 (ok:UKok w0 K) (con:ConJ w0 K) (h:JX w0 K w tk xs 0 (a:Int) ((a:Int)+1) rs gl rv gv tv ts) (j:Nat) (v:VD) (hv:[oneD,priD][j]?=some v) (hP:∀w1,(∀g ys,LsAt w g ys→LsAt w1 g ys)→JP k w1 (a+1) tk xs (rs.set 3 (sdV v)) gl ts) :
  Calls Tryz.prog 54 (argj K ⟨4,3,j,0,0⟩) w (GoJ w0 K k a):=by
 obtain⟨cb,co,ccap,h1,h2,h3⟩:=con.con
 have hj:j<2:=(List.getElem?_eq_some_iff.1 hv).1
 have hlt:cb<w.heap.size:=Nat.lt_of_lt_of_le h2 h.bel.size
 refine (loadc_any _ K.gf 3 j cb co 2 ccap v ⟨4,3,j,0,0⟩ (K.c 0 a ((a:Int)+1) gv rs) w h.cal h.lr rfl rfl (by omega) rfl hj h1 hlt (fun q u hu=>cell_later h.bel (h3 j _ hv q u hu))).mono ?_
 rintro e w1 ⟨rfl,q1,q2⟩
 exact GoJ.call ok h q2 q1 (by rw[List.length_set];exact h.lr) (hP w1 (h.lsf ok q2))
theorem g22 (ok:UKok w0 K) (h:JX w0 K w tk xs 0 (a:Int) ((a:Int)+1) rs gl rv gv tv ts) (j:Nat) (hj:j<250) (hP:∀w1,(∀g ys,LsAt w g ys→LsAt w1 g ys)→JP k w1 (a+1) tk xs (rs.set j (sdL nilL)) gl ts) :
  Calls Tryz.prog 67 (argj K ⟨22,j,0,0,0⟩) w (GoJ w0 K k a):=by
 refine (doList_any _ K.gf j ⟨22,j,0,0,0⟩ (K.c 0 a ((a:Int)+1) gv rs) w h.cal h.lr hj rfl).mono ?_
 rintro e w1 ⟨rfl,q1,q2⟩
 exact GoJ.call ok h q2 q1 (by rw[List.length_set];exact h.lr) (hP w1 (h.lsf ok q2))
theorem g42 (ok:UKok w0 K) (h:JX w0 K w tk xs 0 (a:Int) ((a:Int)+1) rs gl rv gv tv ts) (hP:∀w1,JP k w1 (a+1) tk xs (rs.set 4 sd0) gl ts) :
  Calls Tryz.prog 83 (argj K ⟨42,4,0,0,0⟩) w (GoJ w0 K k a):=by
 refine (doDrop_any _ K.gf 4 ⟨42,4,0,0,0⟩ (K.c 0 a ((a:Int)+1) gv rs) w h.cal h.lr (by omega) rfl).mono ?_
 rintro e w1 ⟨rfl,q1,q2⟩
 exact GoJ.call ok h q2 q1 (by rw[List.length_set];exact h.lr) (hP w1)
theorem g23n (ok:UKok w0 K) (h:JX w0 K w tk xs 0 (a:Int) ((a:Int)+1) rs gl rv gv tv ts) (v:VD) (h3:rs[3]?=some (sdV v)) (h4:rs[4]?=some (sdL nilL)) (hP:∀w1 q cap,1≤cap→LsAt w1 q [v]→JP k w1 (a+1) tk xs ((rs.set 3 sd0).set 4 (sdL (.slice (some ⟨q,0,none⟩) 1 cap))) gl ts) :
  Calls Tryz.prog 68 (argj K ⟨23,4,-4,0,0⟩) w (GoJ w0 K k a):=by
 refine (doAdd_neg _ K.gf ⟨23,4,-4,0,0⟩ v (K.c 0 a ((a:Int)+1) gv rs) w h.cal h.lr rfl rfl rfl h3 h4).mono ?_
 rintro e w1 ⟨rfl,q,cap,q1,q2,_,q4,q5⟩
 exact GoJ.call ok h q5 q1 (by rw[List.length_set,List.length_set];exact h.lr) (hP w1 q cap q4 q2)
theorem g23p (ok:UKok w0 K) (h:JX w0 K w tk xs 0 (a:Int) ((a:Int)+1) rs gl rv gv tv ts) (v:VD) (h3:rs[0]?=some (sdV v)) (h4:rs[4]?=some (sdL nilL)) (hP:∀w1 q cap,1≤cap→LsAt w1 q [v]→JP k w1 (a+1) tk xs (rs.set 4 (sdL (.slice (some ⟨q,0,none⟩) 1 cap))) gl ts) :
  Calls Tryz.prog 68 (argj K ⟨23,4,0,0,0⟩) w (GoJ w0 K k a):=by
 refine (doAdd_pos _ K.gf ⟨23,4,0,0,0⟩ v (K.c 0 a ((a:Int)+1) gv rs) w h.cal h.lr rfl rfl rfl h3 h4).mono ?_
 rintro e w1 ⟨rfl,q,cap,q1,q2,_,q4,q5⟩
 exact GoJ.call ok h q5 q1 (by rw[List.length_set];exact h.lr) (hP w1 q cap q4 q2)
theorem g24 (ok:UKok w0 K) (h:JX w0 K w tk xs 0 (a:Int) ((a:Int)+1) rs gl rv gv tv ts) (q n cap:Nat) (ys:List VD) (h4:rs[4]?=some (sdL (.slice (some ⟨q,0,none⟩) n cap))) (hc:n≤cap) (hn0:0<n) (hn:n+n≤250) (hL:LsAt w q ys) (hy:ys.length=n) (hP:∀w1 q' cap',n+n≤cap'→LsAt w1 q' (ys++ys)→JP k w1 (a+1) tk xs (rs.set 4 (sdL (.slice (some ⟨q',0,none⟩) (n+n) cap'))) gl ts) :
  Calls Tryz.prog 68 (argj K ⟨24,4,4,0,0⟩) w (GoJ w0 K k a):=by
 refine (doJoin_go _ K.gf q n cap ⟨24,4,4,0,0⟩ ys (K.c 0 a ((a:Int)+1) gv rs) w h.cal h.lr rfl rfl rfl h4 hc hn0 hn hL hy).mono ?_
 rintro e w1 ⟨rfl,q',cap',q1,q2,_,q4,q5⟩
 exact GoJ.call ok h q5 q1 (by rw[List.length_set];exact h.lr) (hP w1 q' cap' q4 q2)
theorem g31 (ok:UKok w0 K) (h:JX w0 K w tk xs 0 (a:Int) ((a:Int)+1) rs [] rv gv tv ts) (z:Int) (hP:∀w1 g,JP k w1 (a+1) tk xs rs [(g,z)] ts) :
  Calls Tryz.prog 73 (argj K ⟨31,z,0,0,0⟩) w (GoJ w0 K k a):=by
 refine (doTry_any _ w0.heap.size K.gf ⟨31,z,0,0,0⟩ (K.c 0 a ((a:Int)+1) gv rs) [] w h.cal h.gu (by simp) h.bel.size).mono ?_
 rintro e w1 ⟨rfl,gv',gn,q1,q2,q3,q4,q5⟩
 have hgb:∀g∈[(gn,z)],w1.heap[g.1]?=some (Ct0 g.2):=by
  intro g hg
  simp only[List.mem_singleton]at hg
  subst hg
  exact q4
 exact⟨rfl,tk,xs,a+1,a,rs,[(gn,z)],rv,gv',tv,ts,h.guard ok (gl2:=[(gn,z)]) q5 q1 q2 (fun g hg=>.inr (hgb g hg)),hP w1 gn,by omega⟩
theorem g32 (ok:UKok w0 K) (g:Nat × Int) (h:JX w0 K w tk xs 0 (a:Int) ((a:Int)+1) rs [g] rv gv tv ts) (hP:∀w1,JP k w1 (a+1) tk xs rs [] ts) :
  Calls Tryz.prog 74 (argj K ⟨32,0,0,0,0⟩) w (GoJ w0 K k a):=by
 obtain⟨ga,cap,hgv,hge,hcap,_,_,_⟩:=h.gu.open vC_len (by simp)
 have hgv1:gv=.slice (some ⟨ga,0,none⟩) (0+1) cap:=hgv
 refine (doEndTry_any _ K.gf 0 cap (some ⟨ga,0,none⟩) ⟨32,0,0,0,0⟩ (K.c 0 a ((a:Int)+1) gv rs) w h.cal hgv1 (by simpa using hcap) (by omega)).mono ?_
 rintro e w1 ⟨rfl,q1,q2⟩
 have hg1:=ORow.butn h.gu q2 (fun g e hg=>by simp at hg;subst hg;exact own_ne h.gu h.cal (by decide) e)
 have hg2:ORow w1 w0.heap.size 277 1 vC (.slice (some ⟨ga,0,none⟩) [caV g.1].length cap) [caV g.1]:=by rw[hgv1]at hg1;exact hg1
 exact⟨rfl,tk,xs,a+1,a,rs,[],rv,.slice (some ⟨ga,0,none⟩) 0 cap,tv,ts,h.guard ok (gl2:=[]) (q2.mono (fun g hg=>.inl (by simp at hg;subst hg;simp))) q1 (vrow_shrink hg2 (m:=0) (by omega)) (fun g hg=>by cases hg),hP w1,by omega⟩
theorem g29 (ok:UKok w0 K) (h:JX w0 K w 1 (endX k) 0 (a:Int) ((a:Int)+1) rs [] rv gv tv ts) (h3:rs[3]?=some (sdL nilL)) :
  Calls Tryz.prog 71 (argj K ⟨29,-4,0,0,0⟩) w (ReJ w0 K k):=by
 refine (doReturn_any _ K.gf 3 ⟨29,-4,0,0,0⟩ 3 vd0 none none 0 0 (K.c 0 a ((a:Int)+1) gv rs) w h.cal h.lr (by omega) (by decide) (by decide) h3).mono ?_
 rintro e w1 ⟨gr,rfl,q1,q2,q3,q4⟩
 exact⟨gr,rfl,Nat.le_trans h.bel.size q1,q2,_,_,_,_,_,_,_,h.call ok q4 (ln2:=0) (at2:=a) (next2:=(a:Int)+1) q3 (by rw[List.length_set];exact h.lr)⟩
end
end Go.Proofs.YtliahjnnbbgooaaGreatDoor.J
namespace Go.Proofs.YtliahjnnbbgooaaGreatDoor.J
open Go.RowKit M T U
theorem LsAt.sla {w:World} {q:Nat} {ys:List VD} (h:LsAt w q ys):SlA w 5 VD.cells (some ⟨q,0,none⟩) ys:=by
 intro i x hi
 refine⟨q,0,rfl,h.lt,fun j v hv=>?_⟩
 rw[Nat.zero_add]
 exact h.cell (flat_at VD.cells 5 ys i j x v (fun y _=>rfl) hi hv)
section
variable {w0:World} {K:UK} {k a:Nat} {rs:List M.SD} {gl:List (Nat × Int)} {w:World} {xs:List RcD} {rv gv tv:Value} {ts:List Nat}
theorem g28 (ok:UKok w0 K) (hT:K.m0.ticks=9) (h:JX w0 K w 0 xs 0 (a:Int) ((a:Int)+1) rs gl rv gv tv ts) (q n cap:Nat) (ys:List VD) (tx:VD→ByteArray) (line:ByteArray)
  (h3:rs[3]?=some (sdV priD)) (h4:rs[4]?=some (sdL (.slice (some ⟨q,0,none⟩) n cap))) (hn:ys.length=n) (hn1:n≤250) (hL:LsAt w q ys) (hxs:xs.length<1000)
  (HT:∀x∈ys,∀W,Calls Tryz.prog 34 #[.agg #[.int .i64 x.k,.int .i64 x.n,.float .f64 x.f,.string x.s,.int .i64 x.r]] W fun e w'=>e=.returned (.string (tx x))∧Below W.heap.size W w')
  (HJ:∀B W a' cap',ORow W B 9 1 sC (.slice a' n cap') (ys.map tx)→Calls Tryz.prog 168 #[.slice a' n cap',.string ⟨#[32]⟩] W fun e w'=>e=.returned (.string line)∧Below W.heap.size W w')
  (hl:line.size≤4000) (hP:∀w1,JP k w1 (a+1) 1 (xs++[⟨6,0,line⟩]) (((rs.set 3 sd0).set 4 sd0).set 4 (sdL nilL)) gl ts) :
  Calls Tryz.prog 70 (argj K ⟨28,4,-4,-5,0⟩) w (GoJ w0 K k a):=by
 have hrl:((rs.set 3 sd0).set 4 sd0).length=250:=by rw[List.length_set,List.length_set];exact h.lr
 have hgm:=blk_lt h.mac
 have hrv:∀g,rv.ownBlock=some g→g<w.heap.size:=fun g e=>(ORow.own_lt h.rc e).2
 refine (doCallp_any K.gm K.gf n cap (some ⟨q,0,none⟩) ⟨28,4,-4,-5,0⟩ (mt K 0 rv tv) (K.c 0 a ((a:Int)+1) gv rs) (fun m' w3=>∃rv',m'=mt K (1:Nat) rv' tv∧JX w0 K w3 1 (xs++[⟨6,0,line⟩]) 0 (a:Int) ((a:Int)+1) ((rs.set 3 sd0).set 4 sd0) gl rv' gv tv ts) w h.mac h.cal h.lr rfl rfl rfl h3 h4 (fun W hm hc hb=>?_)).mono ?_
 ·have hW:=h.call ok hb (ln2:=0) (at2:=a) (next2:=(a:Int)+1) hc hrl
  have hLW:LsAt W q ys:=h.lsf ok hb q ys hL
  refine (callp_any K.gm n cap (some ⟨q,0,none⟩) (mt K 0 rv tv) .nilIface (fun w'=>(∃rv',JX w0 K w' 1 (xs++[⟨6,0,line⟩]) 0 (a:Int) ((a:Int)+1) ((rs.set 3 sd0).set 4 sd0) gl rv' gv tv ts)∧∀q o,w.heap.size≤q→W.heap[q]?=some o→w'.heap[q]?=some o) W hm (by show (0:Int)<K.m0.ticks;omega) (Int.le_refl _) (by show K.m0.ticks≤100000;omega) (fun W2 hm2 hb2=>?_)).mono ?_
  ·have hW2:JX w0 K W2 1 xs 0 (a:Int) ((a:Int)+1) ((rs.set 3 sd0).set 4 sd0) gl rv gv tv ts:=hW.mach ok (tk2:=1) hb2 hm2
   have hL2:LsAt W2 q ys:=hLW.but hb2 (by simp;exact hLW.ne hm (by decide))
   refine (print_any K.gm K.gt K.gc K.gf n cap (some ⟨q,0,none⟩) ys tx line (mt K (1:Nat) rv tv) (K.c 0 a ((a:Int)+1) gv ((rs.set 3 sd0).set 4 sd0)) .nilIface (fun wk w'=>∃rv',MachAt w' K.gm (mt K (1:Nat) rv' tv)∧ORow w' w0.heap.size 67 5 rgC rv' (xs++[⟨6,0,line⟩])∧ButL (K.gm :: rv.ownBlock.toList) wk w') W2 hW2.mac ok.run (hW2.tka ok) hW2.cal ok.pro rfl hL2.sla hn hn1 HT (fun W a' cap' ho=>HJ _ W a' cap' ho) hl (fun wk hwk=>?_)).mono ?_
   ·have hx:=hW2.later ok hwk
    exact recg_go w0.heap.size K.gm ⟨6,0,line⟩ (mt K (1:Nat) rv tv) xs wk hx.mac ok.wat hx.rc (by omega) hx.bel.size
   ·rintro e w' ⟨rfl,wk,hwk,rv',r1,r2,r3⟩
    have hx:=hW2.later ok hwk
    refine⟨rfl,⟨rv',hx.recd ok r3 r1 r2⟩,fun q o hq ho=>?_⟩
    have h1:W2.heap[q]?=some o:=hb2.blk ho (by simp;omega)
    have h2:wk.heap[q]?=some o:=blk_later hwk h1
    refine r3.blk h2 ?_
    simp only[List.mem_cons,Option.mem_toList,not_or]
    exact⟨by omega,fun e=>by have:=hrv _ e;omega⟩
  ·rintro e w' ⟨rfl,⟨rv',hx⟩,hk⟩
   exact⟨rfl,_,hx.mac,hx.cal,⟨rv',rfl,hx⟩,hk⟩
 ·rintro e w' ⟨rfl,m',w3,q1,q2,⟨rv',rfl,hx⟩,q4⟩
  exact⟨rfl,1,_,a+1,a,_,gl,rv',gv,tv,ts,hx.call ok q4 (ln2:=0) (at2:=a) (next2:=(a:Int)+1) q2 (by rw[List.length_set];exact hrl),hP w',by omega⟩
end
end Go.Proofs.YtliahjnnbbgooaaGreatDoor.J
