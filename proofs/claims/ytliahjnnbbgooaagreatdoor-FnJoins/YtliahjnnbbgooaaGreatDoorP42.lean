import Derived.Test.YtliahjnnbbgooaaGreatDoorP40
import Derived.Test.YtliahjnnbbgooaaGreatDoorP29
import Derived.Test.YtliahjnnbbgooaaGreatDoorP41
set_option linter.unusedVariables false
set_option linter.unusedSimpArgs false
set_option maxRecDepth 20000
set_option maxHeartbeats 8000000
namespace Go.Proofs.YtliahjnnbbgooaaGreatDoor.J
open Go.RowKit M T U
def JoinC:Prop:=∀(W:World) (q n cap:Nat),(∀j,j<n→W.cell? ⟨q,j,none⟩=some (.string ⟨#[49]⟩))→q<W.heap.size→2≤n→n≤250→n≤cap→Calls Tryz.prog 168 #[.slice (some ⟨q,0,none⟩) n cap,.string ⟨#[32]⟩] W fun e w'=>e=.returned (.string (onesB n))∧Below W.heap.size W w'
theorem sRow {W:World} {B n cap:Nat} {a':Option Addr} {ss:List ByteArray} (ho:ORow W B 9 1 sC (.slice a' n cap) ss) (h1:1≤n):∃g,a'=some ⟨g,0,none⟩∧g<W.heap.size∧n≤cap∧ss.length=n∧∀(j:Nat) s,ss[j]?=some s→W.cell? ⟨g,j,none⟩=some (.string s):=by
 obtain⟨a0,c0,e0⟩:=ORow.val ho
 have hl:ss.length=n:=by injection e0 with _ e0 _;exact e0.symm
 obtain⟨g,c2,e2,_,hc,hs,_,hlt⟩:=ORow.open ho sC_len (by omega)
 injection e2 with e2 _ e3
 refine⟨g,e2,hlt,by omega,hl,fun j s hj=>?_⟩
 obtain⟨b,off,e,_,hcl⟩:=hs j s hj
 injection e with e;injection e with e4 e5
 subst e4 e5
 have:=hcl 0 _ rfl
 simpa using this
theorem join_ones (HJ:JoinC) (n:Nat) (h1:1≤n) (hn:n≤250) (B:Nat) (W:World) (a':Option Addr) (cap':Nat) (ho:ORow W B 9 1 sC (.slice a' n cap') ((List.replicate n oneD).map fun _=>⟨#[49]⟩)) :
  Calls Tryz.prog 168 #[.slice a' n cap',.string ⟨#[32]⟩] W fun e w'=>e=.returned (.string (onesB n))∧Below W.heap.size W w':=by
 obtain⟨g,rfl,hlt,hc,_,hs⟩:=sRow ho h1
 have hj:∀j,j<n→W.cell? ⟨g,j,none⟩=some (.string ⟨#[49]⟩):=fun j hj=>hs j _ (by simp[hj])
 by_cases e:n=1
 ·subst e
  refine (join1 g cap' ⟨#[49]⟩ ⟨#[32]⟩ W (hj 0 (by omega))).mono ?_
  rintro e w' ⟨rfl,rfl⟩
  exact⟨rfl,Below.refl _ _⟩
 ·exact HJ W g n cap' hj hlt (by omega) hn hc
theorem join_tab (B:Nat) (W:World) (a':Option Addr) (cap':Nat) (ho:ORow W B 9 1 sC (.slice a' 1 cap') ([errD].map fun _=>⟨#[116,97,98,108,101]⟩)) :
  Calls Tryz.prog 168 #[.slice a' 1 cap',.string ⟨#[32]⟩] W fun e w'=>e=.returned (.string ⟨#[116,97,98,108,101]⟩)∧Below W.heap.size W w':=by
 obtain⟨g,rfl,hlt,hc,_,hs⟩:=sRow ho (by omega)
 refine (join1 g cap' ⟨#[116,97,98,108,101]⟩ ⟨#[32]⟩ W (hs 0 _ rfl)).mono ?_
 rintro e w' ⟨rfl,rfl⟩
 exact⟨rfl,Below.refl _ _⟩
theorem onesL_len:∀n,(onesL (n+1)).length=2*n+1
 | 0=>rfl
 | n+1=>by
  show (49 :: 32 :: onesL (n+1)).length=_
  simp[onesL_len n]
  omega
theorem onesB_size {n:Nat} (h0:1≤n) (h:n≤250):(onesB n).size≤4000:=by
 obtain⟨m,rfl⟩:∃m,n=m+1:=⟨n-1,by omega⟩
 show (onesL (m+1)).toArray.size≤4000
 rw[List.size_toArray,onesL_len]
 omega
theorem pow_le7 {j:Nat} (h:j≤7):1≤2^j∧2^j≤128:=by
 have h1:2^j≤2^7:=Nat.pow_le_pow_right (by omega) h
 have h2:0<2^j:=Nat.two_pow_pos j
 exact⟨h2,by omega⟩
theorem pf23 (args:Array Value) (W:World):(callFunc 68 args).run Tryz.prog W=.ok (.enter 68 args) W:=by kernel_rfl
section
variable {w0:World} {K:UK} {k a tk:Nat} {rs:List M.SD} {gl:List (Nat × Int)} {w:World} {xs:List RcD} {rv gv tv:Value} {ts:List Nat}
abbrev OutJ (w0:World) (K:UK) (k a fid:Nat) (i:ID) (w:World):Prop:=Calls Tryz.prog fid (argj K i) w (GoJ w0 K k a)∨Calls Tryz.prog fid (argj K i) w (ThJ w0 K k a)∨Calls Tryz.prog fid (argj K i) w (ReJ w0 K k)
theorem do_j (ok:UKok w0 K) (con:ConJ w0 K) (hT:K.m0.ticks=9) (HJ:JoinC) (hp:JP k w a tk xs rs gl ts) (h:JX w0 K w tk xs 0 (a:Int) ((a:Int)+1) rs gl rv gv tv ts) :
  ∃(i:ID) (op fid:Nat),(joiI k)[a]?=some i∧i.op=op∧op<43∧instT[op]?=some (.func (.func fid) #[] #[])∧(∀args W,(callFunc fid args).run Tryz.prog W=.ok (.enter fid args) W)∧OutJ w0 K k a fid i w:=by
 rcases hp with ⟨rfl,rfl,rfl,rfl,rfl,rfl⟩ | ⟨g,rfl,rfl,rfl,rfl,rfl,rfl⟩ | ⟨g,rfl,rfl,rfl,rfl,rfl,rfl⟩ | ⟨g,rfl,rfl,rfl,rfl,rfl,rfl⟩ | ⟨g,j,q,cap,hjk,hj7,hc,hl,rfl,rfl,rfl,rfl,rfl,rfl⟩ | ⟨g,q,cap,hk7,hc,hl,rfl,rfl,rfl,rfl,rfl,rfl⟩ | ⟨g,hk7,rfl,rfl,rfl,rfl,rfl,rfl⟩ | ⟨g,hk7,rfl,rfl,rfl,rfl,rfl,rfl⟩ | ⟨hk7,rfl,rfl,rfl,rfl,rfl,rfl⟩ | ⟨hk7,rfl,rfl,rfl,rfl,rfl,rfl⟩ | ⟨gt,tr,hk7,rfl,rfl,rfl,rfl,rfl,rfl⟩ | ⟨gt,tr,hk7,rfl,rfl,rfl,rfl,rfl,rfl⟩ | ⟨gt,tr,hk7,rfl,rfl,rfl,rfl,rfl,rfl⟩ | ⟨gt,tr,q,cap,hk7,hc,hl,rfl,rfl,rfl,rfl,rfl,rfl⟩ | ⟨gt,tr,hk7,rfl,rfl,rfl,rfl,rfl,rfl⟩ | ⟨gt,tr,hk7,rfl,rfl,rfl,rfl,rfl,rfl⟩ | ⟨gt,tr,hk7,rfl,rfl,rfl,rfl,rfl,rfl⟩
 ·exact⟨_,31,_,joi_lo (by omega),rfl,by omega,rfl,cf31,.inl (g31 ok h _ (fun w1 g=>.p1 g))⟩
 ·exact⟨_,4,_,joi_lo (by omega),rfl,by omega,rfl,uf4,.inl (g4 ok con h 0 oneD rfl (fun w1 _=>by rw[Rg_set3];exact .p2 g))⟩
 ·exact⟨_,22,_,joi_lo (by omega),rfl,by omega,rfl,cf22,.inl (g22 ok h 4 (by omega) (fun w1 _=>by rw[Rg_set4];exact .p3 g))⟩
 ·exact⟨_,23,_,joi_lo (by omega),rfl,by omega,rfl,pf23,.inl (g23n ok h oneD (Rg3 R0_len) (Rg4 R0_len) (fun w1 q cap hc hl=>by rw[Rg_set3,Rg_set4];exact .p4 g 0 q cap (by omega) (by omega) hc hl))⟩
 ·by_cases e:j=k
  ·subst e
   exact⟨_,4,_,joi_hi (j:=0),rfl,by omega,rfl,uf4,.inl (g4 ok con h 1 priD rfl (fun w1 hk=>by rw[Rg_set3];exact .p5 g q cap hj7 hc (hk _ _ hl)))⟩
  ·obtain⟨p1,p2⟩:=pow_le7 hj7
   by_cases e7:j=7
   ·subst e7
    exact⟨_,24,_,joi_mid (by omega),rfl,by omega,rfl,pf23,.inr (.inl (g24x ok g (10+k) q (2^7) cap h (Rg4 R0_len) hc (by decide) (by decide) (by omega) (fun w1 tr gt=>by rw[Hb_rg,show 10+k=4+k+6 by omega];exact .q0 gt tr (by omega))))⟩
   ·have h6:j≤6:=by omega
    have h64:2^j≤2^6:=Nat.pow_le_pow_right (by omega) h6
    have e2:2^j+2^j=2^(j+1):=by rw[Nat.pow_succ];omega
    refine⟨_,24,_,joi_mid (by omega),rfl,by omega,rfl,pf23,.inl (g24 ok h q (2^j) cap _ (Rg4 R0_len) hc p1 (by omega) hl List.length_replicate (fun w1 q' cap' hc' hl'=>?_))⟩
    rw[Rg_set4,e2]
    rw[List.replicate_append_replicate,e2]at hl'
    rw[e2]at hc'
    exact .p4 g (j+1) q' cap' (by omega) (by omega) hc' hl'
 ·obtain⟨p1,p2⟩:=pow_le7 hk7
  refine⟨_,28,_,joi_hi (j:=1),rfl,by omega,rfl,uf28,.inl (g28 ok hT h q (2^k) cap _ (fun _=>⟨#[49]⟩) (onesB (2^k)) (Rg3 R0_len) (Rg4 R0_len) List.length_replicate (by omega) hl (by simp) (fun x hx W=>?_) (fun B W a' cap' ho=>join_ones HJ (2^k) p1 (by omega) B W a' cap' ho) (onesB_size p1 (by omega)) (fun w1=>?_))⟩
  ·obtain rfl:=(List.mem_replicate.1 hx).2
   exact Text1 W
  ·rw[Rg_set3,Rg_set4,Rg_set4]
   exact .p6 g hk7
 ·exact⟨_,42,_,joi_hi (j:=2),rfl,by omega,rfl,cf42,.inl (g42 ok h (fun w1=>by rw[Rg_set4];exact .p7 g hk7))⟩
 ·exact⟨_,32,_,joi_hi (j:=3),rfl,by omega,rfl,cf32,.inl (g32 ok _ h (fun w1=>.p8 hk7))⟩
 ·exact⟨_,22,_,joi_hi (j:=4),rfl,by omega,rfl,cf22,.inl (g22 ok h 3 (by omega) (fun w1 _=>by rw[Rg_set3];exact .p9 hk7))⟩
 ·exact⟨_,29,_,joi_hi (j:=5),rfl,by omega,rfl,cf29,.inr (.inr (g29 ok (by have e:endX k=[prR k]:=if_pos hk7;rw[e];exact h) (Rg3 R0_len)))⟩
 ·exact⟨_,4,_,joi_hi (j:=6),rfl,by omega,rfl,uf4,.inl (g4 ok con h 1 priD rfl (fun w1 _=>by rw[Rg_set3];exact .q1 gt tr hk7))⟩
 ·exact⟨_,22,_,joi_hi (j:=7),rfl,by omega,rfl,cf22,.inl (g22 ok h 4 (by omega) (fun w1 _=>by rw[Rg_set4];exact .q2 gt tr hk7))⟩
 ·exact⟨_,23,_,joi_hi (j:=8),rfl,by omega,rfl,pf23,.inl (g23p ok h errD (by rw[Rg0];exact Hb0 tr) (Rg4 (Hb_len tr)) (fun w1 q cap hc hl=>by rw[Rg_set4];exact .q3 gt tr q cap hk7 hc hl))⟩
 ·refine⟨_,28,_,joi_hi (j:=9),rfl,by omega,rfl,uf28,.inl (g28 ok hT h q 1 cap _ (fun _=>⟨#[116,97,98,108,101]⟩) ⟨#[116,97,98,108,101]⟩ (Rg3 (Hb_len tr)) (Rg4 (Hb_len tr)) rfl (by omega) hl (by simp) (fun x hx W=>?_) (fun B W a' cap' ho=>join_tab B W a' cap' ho) (by decide) (fun w1=>?_))⟩
  ·obtain rfl:=List.mem_singleton.1 hx
   exact TextT 0 W
  ·rw[Rg_set3,Rg_set4,Rg_set4]
   exact .q4 gt tr hk7
 ·exact⟨_,42,_,joi_hi (j:=10),rfl,by omega,rfl,cf42,.inl (g42 ok h (fun w1=>by rw[Rg_set4];exact .q5 gt tr hk7))⟩
 ·exact⟨_,22,_,joi_hi (j:=11),rfl,by omega,rfl,cf22,.inl (g22 ok h 3 (by omega) (fun w1 _=>by rw[Rg_set3];exact .q6 gt tr hk7))⟩
 ·exact⟨_,29,_,joi_hi (j:=12),rfl,by omega,rfl,cf29,.inr (.inr (g29 ok (by have e:endX k=[thR,caR,prT]:=if_neg (by omega);rw[e];exact h) (Rg3 (Hb_len tr))))⟩
end
end Go.Proofs.YtliahjnnbbgooaaGreatDoor.J
namespace Go.Proofs.YtliahjnnbbgooaaGreatDoor.J
open Go.RowKit M T U
section
variable {w0:World} {K:UK} {k a tk:Nat} {ln:Int} {rs:List M.SD} {gl:List (Nat × Int)} {w:World} {xs:List RcD} {rv gv tv:Value} {ts:List Nat}
theorem JX.next {ax nx:Int} (ok:UKok w0 K) (h:JX w0 K w tk xs ln ax nx rs gl rv gv tv ts) (o:Obj) (z:Int):JX w0 K ((w.setCell ⟨K.gf,10,none⟩ (.int .i64 z)).alloc o).drew tk xs ln ax z rs gl rv gv tv ts:=by
 have hb:ButL [K.gf] w ((w.setCell ⟨K.gf,10,none⟩ (.int .i64 z)).alloc o).drew:=(((ButL.refl _ _).set (by simp) _ _).alloc o).drew
 refine h.call ok hb ?_ h.lr
 have h9:=blk_set h.cal 10 (.int .i64 z)
 rw[CallD.set_next]at h9
 exact CallAt.later (c:=K.c ln ax z gv rs) h9 (bw1 _ o).drew
theorem JX.drew {ax nx:Int} (ok:UKok w0 K) (h:JX w0 K w tk xs ln ax nx rs gl rv gv tv ts):JX w0 K w.drew tk xs ln ax nx rs gl rv gv tv ts:=h.call ok (ButL.refl _ _).drew h.cal h.lr
theorem JX.atW {ax nx:Int} (ok:UKok w0 K) (h:JX w0 K w tk xs ln ax nx rs gl rv gv tv ts) (z:Int):JX w0 K (w.setCell ⟨K.gf,9,none⟩ (.int .i64 z)) tk xs ln z nx rs gl rv gv tv ts:=by
 have hb:ButL [K.gf] w (w.setCell ⟨K.gf,9,none⟩ (.int .i64 z)):=(ButL.refl _ _).set (by simp) _ _
 refine h.call ok hb ?_ h.lr
 have:=blk_set h.cal 9 (.int .i64 z)
 rw[CallD.set_at]at this
 exact this
end
theorem run_j (w0:World) (K:UK) (ok:UKok w0 K) (con:ConJ w0 K) (HJ:JoinC) (k:Nat) (hk:k≤12) (ht:K.m0.ticks=9) (b off ci:Nat) (w:World) (hins:K.c0.ins=.slice (some ⟨b,off,none⟩) (17+k) ci) (hsl:SlA w0 5 ID.cells (some ⟨b,off,none⟩) (joiI k)) (nx:Int) (rv0 gv0 tv0:Value) (h:JX w0 K w 0 [] 0 0 nx R0 [] rv0 gv0 tv0 []) :
  Calls Tryz.prog 33 #[.pointer (some ⟨K.gm,0,none⟩),.pointer (some ⟨K.gf,0,none⟩)] w (ReJ w0 K k):=by
 obtain⟨L,hL⟩:∃L,17+k=L:=⟨_,rfl⟩
 rw[hL]at hins
 have HP0:Hid (JP k w 0 0 [] R0 [] []):=by
  have h9:JP k w 0 0 [] (Rg R0 sd0 sd0) [] []:=.p0
  rw[←R0_rg]at h9
  exact h9
 have HX0:Hid (JX w0 K w 0 [] 0 0 nx R0 [] rv0 gv0 tv0 []):=h
 have HSL:Hid (SlA w0 5 ID.cells (some ⟨b,off,none⟩) (joiI k)):=hsl
 have HOK:Hid (UKok w0 K):=ok
 have HCN:Hid (ConJ w0 K):=con
 have HT:Hid (K.m0.ticks=9):=ht
 have HJC:Hid JoinC:=HJ
 clear h hsl ok con ht HJ
 go_enter Tryz.func33,Tryz.ntmps33
 go_wp2_with fail
 go_loopw [] (fun wr=>∃(tk:Nat) (xs:List RcD) (at':Nat) (nx:Int) (rs:List M.SD) (gl:List (Nat × Int)) (rv gv tv:Value) (ts:List Nat),Hid (JX w0 K wr tk xs 0 at' nx rs gl rv gv tv ts)∧Hid (JP k wr at' tk xs rs gl ts)) (fun wr=>30-(intOf ((wr.cell? ⟨K.gf,9,none⟩).getD undef)).toNat)
 case atStart=>exact⟨0,[],0,nx,R0,[],rv0,gv0,tv0,[],HX0,HP0⟩
 case round =>
  clear HX0 HP0
  obtain⟨tk,xs,at',nx,rs,gl,rv,gv,tv,ts,HX,HP⟩:=hrel
  have hx:=HX.out
  have hle:at'≤16+k:=HP.out.le
  have hat:at'<L:=by omega
  have c6:wr.cell? ⟨K.gf,6,none⟩=some (.slice (some ⟨b,off,none⟩) L ci):=by rw[hx.cal.cell 6 (by omega),←hins];rfl
  have c9:wr.cell? ⟨K.gf,9,none⟩=some (.int .i64 (at':Int)):=by rw[hx.cal.cell 9 (by omega)];rfl
  have c10:wr.cell? ⟨K.gf,10,none⟩=some (.int .i64 nx):=by rw[hx.cal.cell 10 (by omega)];rfl
  obtain⟨i0',hi0'⟩:∃i,(joiI k)[at']?=some i:=⟨(joiI k)[at' ]'(by rw[joi_len];omega),by simp⟩
  obtain⟨nop,na,nb,nc,nd⟩:=i0'
  obtain⟨b',off',e0,hbl,hc⟩:=HSL.out at' ⟨nop,na,nb,nc,nd⟩ hi0'
  have e1:b=b'∧off=off':=by injection e0 with e0;injection e0 with e1 e2;exact⟨e1,e2⟩
  obtain⟨rfl,rfl⟩:=e1
  have i0:wr.cell? ⟨b,off+at'*5,none⟩=some (.int .i64 nop):=by have:=cell_later hx.bel (hc 0 _ rfl);simpa using this
  have i1:wr.cell? ⟨b,off+at'*5+1,none⟩=some (.int .i64 na):=cell_later hx.bel (hc 1 _ rfl)
  have i2:wr.cell? ⟨b,off+at'*5+2,none⟩=some (.int .i64 nb):=cell_later hx.bel (hc 2 _ rfl)
  have i3:wr.cell? ⟨b,off+at'*5+3,none⟩=some (.int .i64 nc):=cell_later hx.bel (hc 3 _ rfl)
  have i4:wr.cell? ⟨b,off+at'*5+4,none⟩=some (.int .i64 nd):=cell_later hx.bel (hc 4 _ rfl)
  have hfl:=blk_lt hx.cal
  have hbl2:b<wr.heap.size:=Nat.lt_of_lt_of_le hbl hx.bel.size
  have b1:(0:Int)≤(at':Int):=by omega
  have b2:(at':Int)<(L:Int):=by omega
  have b3:(at':Int)≤10000:=by omega
  have z9:=blk_frozen hx.cal
  have HC9:Hid _:=c9
  obtain⟨W2,hW2⟩:∃W2,((wr.setCell ⟨K.gf,10,none⟩ (.int .i64 ((at':Int)+1))).alloc (InO ⟨nop,na,nb,nc,nd⟩)).drew=W2:=⟨_,rfl⟩
  have hx2:JX w0 K W2 tk xs 0 at' (at'+1) rs gl rv gv tv ts:=by rw[←hW2];exact hx.next HOK.out _ _
  have hx2d:=hx2.drew HOK.out
  have hbw:ButL [K.gf] wr W2.drew:=by rw[←hW2];exact ((((ButL.refl _ _).set (by simp) _ _).alloc _).drew).drew
  have hp2:JP k W2.drew at' tk xs rs gl ts:=HP.out.keep (hx.lsf HOK.out hbw)
  have hbi:W2.heap[wr.heap.size]?=some (InO ⟨nop,na,nb,nc,nd⟩):=by rw[←hW2];exact blk_newn (by simp) _
  have d0:W2.cell? ⟨wr.heap.size,0,none⟩=some (.int .i64 nop):=by rw[blk_cell hbi];rfl
  have d1:W2.cell? ⟨wr.heap.size,1,none⟩=some (.int .i64 na):=by rw[blk_cell hbi];rfl
  have d2:W2.cell? ⟨wr.heap.size,2,none⟩=some (.int .i64 nb):=by rw[blk_cell hbi];rfl
  have d3:W2.cell? ⟨wr.heap.size,3,none⟩=some (.int .i64 nc):=by rw[blk_cell hbi];rfl
  have d4:W2.cell? ⟨wr.heap.size,4,none⟩=some (.int .i64 nd):=by rw[blk_cell hbi];rfl
  obtain⟨i9,op,fid,hi9,hop,hop43,hT,hcf,hcall⟩:=do_j HOK.out HCN.out HT.out HJC.out hp2 hx2d
  rw[hi0']at hi9
  cases hi9
  dsimp only at hop
  subst hop
  have mT:W2.cell? ⟨K.gm,14+op,none⟩=some (.func (.func fid) #[] #[]):=by rw[hx2.mac.cell,MachD.inst _ hop43,hT]
  have o1:(0:Int)≤(op:Int):=by omega
  have o2:(op:Int)<43:=by omega
  clear hx hx2 hx2d hc e0 hbi hT hop43 hi0' hbw hp2 HP HX
  rcases hcall with hcall | hcall | hcall
  ·have HCA:Hid (Calls Tryz.prog fid #[.pointer (some ⟨K.gm,0,none⟩),.pointer (some ⟨K.gf,0,none⟩),.agg #[.int .i64 (op:Int),.int .i64 na,.int .i64 nb,.int .i64 nc,.int .i64 nd]] W2.drew (GoJ w0 K k at')):=hcall
   clear hcall
   go_wp2_with fail
   go_region
   go_wp2_with fail
   clear hW2 c6 c9 c10 i0 i1 i2 i3 i4 z9
   go_region_with (refine (HCA.out).mono ?_;rintro e w3 ⟨rfl,tk',xs',at2,ax,rs',gl',rv',gv',tv',ts',hx3,hp3,hmu⟩)
   all_goals
    have c10:w3.cell? ⟨K.gf,10,none⟩=some (.int .i64 (at2:Int)):=by rw[hx3.cal.cell 10 (by omega)];rfl
    have c9:w3.cell? ⟨K.gf,9,none⟩=some (.int .i64 ax):=by rw[hx3.cal.cell 9 (by omega)];rfl
    have z9:=blk_frozen hx3.cal
    have HX3:Hid (JX w0 K (w3.setCell ⟨K.gf,9,none⟩ (.int .i64 (at2:Int))) tk' xs' 0 at2 at2 rs' gl' rv' gv' tv' ts'):=hx3.atW HOK.out _
    have HP3:Hid (JP k (w3.setCell ⟨K.gf,9,none⟩ (.int .i64 (at2:Int))) at2 tk' xs' rs' gl' ts'):=hp3.keep (hx3.lsf HOK.out ((ButL.refl _ _).set (by simp) _ _))
    have HMU:Hid (at'<at2∧at2≤16+k):=⟨hmu,hp3.le⟩
    clear hx3 hp3 hmu
    go_wp2_with fail
    go_roundw
    case rel=>exact⟨tk',xs',at2,_,rs',gl',rv',gv',tv',ts',HX3,HP3⟩
    case measure =>
     have h9:(w3.setCell ⟨K.gf,9,none⟩ (.int .i64 (at2:Int))).cell? ⟨K.gf,9,none⟩=some (.int .i64 (at2:Int)):=by rw[HX3.out.cal.cell 9 (by omega)];rfl
     rw[h9,HC9.out]
     simp only[Option.getD_some,intOf,Int.toNat_natCast]
     have:=HMU.out
     omega
  ·have HCA:Hid (Calls Tryz.prog fid #[.pointer (some ⟨K.gm,0,none⟩),.pointer (some ⟨K.gf,0,none⟩),.agg #[.int .i64 (op:Int),.int .i64 na,.int .i64 nb,.int .i64 nc,.int .i64 nd]] W2.drew (ThJ w0 K k at')):=hcall
   clear hcall
   go_wp2_with fail
   go_region
   go_wp2_with fail
   clear hW2 c6 c9 c10 i0 i1 i2 i3 i4 z9
   go_region_with (refine (HCA.out).mono ?_;rintro e w3 ⟨gr,rfl,hlv⟩)
   all_goals
    have HLV:Hid (Calls Tryz.prog 103 #[.pointer (some ⟨K.gm,0,none⟩),.pointer (some ⟨K.gf,0,none⟩),.iface 112 (.pointer (some ⟨gr,0,none⟩))] w3 (GoJ w0 K k at')):=hlv
    clear hlv
    go_wp2_with fail
    refine (HLV.out).mono ?_
    rintro e w4 ⟨rfl,tk',xs',at2,ax,rs',gl',rv',gv',tv',ts',hx3,hp3,hmu⟩
    have c10:w4.cell? ⟨K.gf,10,none⟩=some (.int .i64 (at2:Int)):=by rw[hx3.cal.cell 10 (by omega)];rfl
    have c9:w4.cell? ⟨K.gf,9,none⟩=some (.int .i64 ax):=by rw[hx3.cal.cell 9 (by omega)];rfl
    have z9:=blk_frozen hx3.cal
    have HX3:Hid (JX w0 K (w4.setCell ⟨K.gf,9,none⟩ (.int .i64 (at2:Int))) tk' xs' 0 at2 at2 rs' gl' rv' gv' tv' ts'):=hx3.atW HOK.out _
    have HP3:Hid (JP k (w4.setCell ⟨K.gf,9,none⟩ (.int .i64 (at2:Int))) at2 tk' xs' rs' gl' ts'):=hp3.keep (hx3.lsf HOK.out ((ButL.refl _ _).set (by simp) _ _))
    have HMU:Hid (at'<at2∧at2≤16+k):=⟨hmu,hp3.le⟩
    clear hx3 hp3 hmu
    go_wp2_with fail
    go_roundw
    case rel=>exact⟨tk',xs',at2,_,rs',gl',rv',gv',tv',ts',HX3,HP3⟩
    case measure =>
     have h9:(w4.setCell ⟨K.gf,9,none⟩ (.int .i64 (at2:Int))).cell? ⟨K.gf,9,none⟩=some (.int .i64 (at2:Int)):=by rw[HX3.out.cal.cell 9 (by omega)];rfl
     rw[h9,HC9.out]
     simp only[Option.getD_some,intOf,Int.toNat_natCast]
     have:=HMU.out
     omega
  ·have HCA:Hid (Calls Tryz.prog fid #[.pointer (some ⟨K.gm,0,none⟩),.pointer (some ⟨K.gf,0,none⟩),.agg #[.int .i64 (op:Int),.int .i64 na,.int .i64 nb,.int .i64 nc,.int .i64 nd]] W2.drew (ReJ w0 K k)):=hcall
   clear hcall
   go_wp2_with fail
   go_region
   go_wp2_with fail
   clear hW2 c6 c9 c10 i0 i1 i2 i3 i4 z9
   go_region_with (refine (HCA.out).mono ?_;rintro e w3 ⟨gr,rfl,hgr,hb3,hx3⟩)
   all_goals
    have HE3:Hid (w0.heap.size≤gr∧w3.heap[gr]?=some (.cells #[.slice none 0 0] 126)∧∃(ax nx:Int) (rs:List M.SD) (rv gv tv:Value) (ts:List Nat),JX w0 K w3 1 (endX k) 0 ax nx rs [] rv gv tv ts):=⟨hgr,hb3,hx3⟩
    have HL:Hid (Calls Tryz.prog 103 #[.pointer (some ⟨K.gm,0,none⟩),.pointer (some ⟨K.gf,0,none⟩),.iface 124 (.pointer (some ⟨gr,0,none⟩))] w3 fun e w'=>e=.returned (.iface 124 (.pointer (some ⟨gr,0,none⟩)))∧w'=w3):=by
     obtain⟨_,_,_,_,gv9,_,_,hx9⟩:=hx3
     obtain⟨ag,cg,hgv⟩:=hx9.gu.val
     exact leave_ret (.pointer (some ⟨K.gm,0,none⟩)) K.gf cg ag (some ⟨gr,0,none⟩) _ w3 hx9.cal hgv ⟨_,cell_later hx9.bel HOK.out.ovr⟩
    clear hb3 hx3 hgr
    go_wp2_with fail
    refine (HL.out).mono ?_
    rintro e w4 ⟨rfl,rfl⟩
    go_wp2_with fail
    go_ret
    exact⟨gr,rfl,HE3.out⟩
end Go.Proofs.YtliahjnnbbgooaaGreatDoor.J
