import Derived.Test.YtjglgbepobmjhaaGreatDoorP07
import Derived.Test.YtjglgbepobmjhaaGreatDoorP05
import Derived.Test.YtjglgbepobmjhaaGreatDoorP18
import Derived.Test.YtjglgbepobmjhaaGreatDoorP13
set_option linter.unusedVariables false
set_option linter.unusedSimpArgs false
set_option maxRecDepth 20000
set_option maxHeartbeats 8000000
namespace Go.Proofs.YtjglgbepobmjhaaGreatDoor
open Go.RowKit
theorem mn_app (a:Nat) (l:List Nat) (x:Nat):TJ.mn a (l++[x])=min (TJ.mn a l) x:=by unfold TJ.mn;rw[List.foldl_append];rfl
theorem min_any (a:Option Addr) (cap:Nat) (x:Nat) (l:List Nat) (w:World) (hp:SlA w 1 intC a (nz (x :: l))) (hlen:l.length+1≤1048576) :
  Calls Tryz.prog 217 #[.slice a (l.length+1) cap] w fun e w'=>e=.returned (.int .i64 (TJ.mn x l))∧Below w.heap.size w w':=by
 have HP:Hid (SlA w 1 intC a (nz (x :: l))):=hp
 obtain⟨b,off,rfl,hbl,hc⟩:=hp 0 x rfl
 have c0:w.cell? ⟨b,off,none⟩=some (.int .i64 x):=by have:=hc 0 _ rfl;simpa using this
 clear hc hp
 obtain⟨n,hn⟩:∃n,l.length=n:=⟨_,rfl⟩
 have HN:Hid (l.length=n):=hn
 rw[hn]at hlen ⊢
 clear hn
 go_enter Tryz.func217,Tryz.ntmps217
 go_wp2_with fail
 go_loopw [3,4] (fun m i wr=>∃j:Nat,j≤n∧i=.int .i64 ((j:Int)+1)∧m=.int .i64 (TJ.mn x (l.take j))∧Hid (Below w.heap.size w wr)) (fun _ i _=>n+1-(intOf i).toNat)
 case atStart=>exact⟨0,Nat.zero_le _,by go_num,rfl,Below.refl _ _⟩
 case round =>
  obtain⟨j,hj,rfl,rfl,HB⟩:=hrel
  by_cases k1:j<n
  ·obtain⟨y,hy⟩:∃y,l[j]?=some y:=⟨l[j]'(by rw[HN.out];exact k1),by simp⟩
   have c1:wr.cell? ⟨b,off+(j+1),none⟩=some (.int .i64 y):=by
    obtain⟨b',off',e,_,hc⟩:=HP.out (j+1) (y:Int) (by rw[nz_get];simp[hy])
    cases e
    have:=cell_later HB.out (hc 0 _ rfl)
    simpa using this
   have HM:Hid (TJ.mn x (l.take (j+1))=min (TJ.mn x (l.take j)) y):=by
    show _=_
    rw[List.take_add_one,hy]
    exact mn_app _ _ _
   obtain⟨z,hz⟩:∃z,TJ.mn x (l.take j)=z:=⟨_,rfl⟩
   rw[hz]at HM ⊢
   clear hy hz
   go_wp2_with fail
   go_roundw
   case rel=>exact⟨j+1,by omega,by go_num,by rw[HM.out];congr 1;omega,HB⟩
   case measure=>simp[intOf];omega
  ·have e:j=n:=by omega
   subst e
   have HE:Hid (TJ.mn x (l.take j)=TJ.mn x l):=by show _=_;rw[List.take_of_length_le (by rw[HN.out];omega)]
   rw[HE.out]
   go_wp2_with fail
   go_ret
   exact⟨rfl,HB.out⟩
theorem OI.cap' {w:World} {B:Nat} {a:Option Addr} {n c:Nat} {ts:List Int} (h:OI w B (.slice a n c) ts):n≤c:=by
 rcases h.2 with ⟨e1,_⟩ | ⟨g0,c0,cur,e1,_,_,h3,_⟩
 ·cases e1;exact Nat.le_refl _
 ·cases e1;exact h3
theorem OI.tail {w:World} {B g n cap:Nat} {rest:List Nat} {l:List Nat} (h:OI w B (.slice (some ⟨g,0,none⟩) n cap) (nz (rest++l))):∃cur,w.heap[g]?=some (.cells cur 3)∧∀(j y:Nat),l[j]?=some y→cur[rest.length+j]?=some (.int .i64 y):=by
 obtain⟨cur,hb⟩:=h.blk
 refine⟨cur,hb,fun j y hy=>?_⟩
 have:=h.cell (i:=rest.length+j) (z:=(y:Int)) (by rw[nz_get,List.getElem?_append_right (by omega),Nat.add_sub_cancel_left,hy];rfl)
 rw[blk_cell hb]at this
 exact this
theorem tail_sl {w:World} {g k:Nat} {cur:Array Value} {l:List Nat} (hb:w.heap[g]?=some (.cells cur 3)) (hc:∀(j y:Nat),l[j]?=some y→cur[k+j]?=some (.int .i64 y)):SlA w 1 intC (some ⟨g,k,none⟩) (nz l):=by
 intro i x hx
 refine⟨g,k,rfl,blk_lt hb,fun j v hv=>?_⟩
 rw[nz_get]at hx
 obtain⟨y,hy,rfl⟩:=Option.map_eq_some_iff.1 hx
 have hj:j=0:=by
  have:=(List.getElem?_eq_some_iff.1 hv).1
  simp[intC]at this
  omega
 subst hj
 simp[intC]at hv
 subst hv
 rw[blk_cell hb]
 have:=hc i y hy
 simpa using this
def offT (s:TJ.S) (l:List Nat):Nat→Bool:=fun x=>decide (x∈l) || s.off x
theorem offT_next (s:TJ.S) (l:List Nat) (m y:Nat) (hy:l[m]?=some y):(fun x=>decide (x=y) || offT s (l.take m) x)=offT s (l.take (m+1)):=by
 funext x
 unfold offT
 rw[List.take_add_one,hy]
 by_cases e:x=y<;>by_cases e2:x∈l.take m<;>simp[e,e2]
theorem RnK.push {nI a:Nat} {s:TJ.S} (h:RnK nI s) (ha:a<nI) (h0:s.met a=0):RnK nI (TJ.push s a):=by
 refine⟨fun x hx=>?_,?_,?_⟩
 ·rcases List.mem_append.1 (show x∈s.op++[a] from hx) with q | q
  ·exact h.rng x q
  ·simp at q;subst q;exact ha
 ·have:=unm_push (v:=s.count+1) ha h0 (by omega)
  have:=h.cnt
  show s.count+1+unm nI (fun x=>if x=a then s.count+1 else s.met x)=nI
  omega
 ·show (s.op++[a]).length≤s.count+1
  have:=h.opl
  simp;omega
theorem RnK.upd {nI a y:Nat} {s:TJ.S} (h:RnK nI s):RnK nI (TJ.upd s a y) :=
 ⟨by rw[TJ.upd_op];exact h.rng,by rw[TJ.upd_count,TJ.upd_met];exact h.cnt,by rw[TJ.upd_op,TJ.upd_count];exact h.opl⟩
theorem RnK.close {nI a:Nat} {s:TJ.S} {rest new:List Nat} {back:Bool} (h:RnK nI s) (ho:s.op=rest++a :: new):RnK nI (TJ.closeS s rest a new back) :=
 ⟨fun x hx=>h.rng x (by rw[ho];exact List.mem_append_left _ hx),h.cnt,by have:=h.opl;rw[ho]at this;simp at this;show rest.length≤s.count;omega⟩
theorem unm_lt {nI a:Nat} {s s':TJ.S} (hm:∀x,s.met x≠0→s'.met x=s.met x) (h0:s.met a=0) (h1:s'.met a≠0) (ha:a<nI):unm nI s'.met<unm nI s.met:=by
 have h2:=unm_push (n:=nI) (v:=1) (met:=s.met) ha h0 (by omega)
 have h3:unm nI s'.met≤unm nI (fun x=>if x=a then 1 else s.met x):=unm_mono fun x hx=>by
  by_cases e:x=a
  ·rw[e];exact h1
  ·rw[if_neg e]at hx;rw[hm x hx];exact hx
 omega
theorem RnV.upd_off {W0:World} {S:List Nat} {B gR gm gl gf nI:Nat} {iv:Value} {w:World} {ov:Value} {s:TJ.S} {a y:Nat} (h:RnV W0 S B gR gm gl gf nI iv w ov s) (ho:s.off y=true):RnV W0 S B gR gm gl gf nI iv w ov (TJ.upd s a y):=by
 unfold TJ.upd;rw[if_pos ho];exact h
theorem RnV.upd_on {W0:World} {S:List Nat} {B gR gm gl gf nI:Nat} {iv:Value} {w:World} {ov:Value} {s:TJ.S} {a y:Nat} (h:RnV W0 S B gR gm gl gf nI iv w ov s) (ho:s.off y=false):RnV W0 S B gR gm gl gf nI iv (w.setCell ⟨gl,a,none⟩ (.int .i64 ((min (s.low a) (s.low y):Nat):Int))) ov (TJ.upd s a y):=by
 unfold TJ.upd;rw[if_neg (by rw[ho];simp)];exact h.setLow a _
theorem silentV_lt {regs nI a:Nat} {n:ID} (hn:InsOk regs nI n) (ha:goesV n.op=true→a+1<nI):∀y∈silentV n a,y<nI:=by
 intro y hy
 unfold silentV at hy
 rcases List.mem_append.1 hy with hy | hy
 ·split at hy
  ·rename_i hg
   simp only[Bool.and_eq_true]at hg
   simp at hy
   subst hy
   exact ha hg.1
  ·cases hy
 ·split at hy
  ·rename_i t ht
   simp at hy
   subst hy
   unfold targetV at ht
   split at ht
   ·rename_i e;have:=hn.ta e;simp at ht;omega
   ·split at ht
    ·rename_i e;have:=hn.tb e;simp at ht;omega
    ·cases ht
  ·cases hy
def VsA (E:Nat→List Nat) (a:Nat) (G:List Nat) (B gR gm gl gf nI:Nat) (iv:Value) (w:World) (ov:Value) (s:TJ.S) (e:Ending) (w':World):Prop :=
 e=.returned (.tuple #[])∧∃ov' s',RnV w (rnS gR gm gl gf ov) B gR gm gl gf nI iv w' ov' s'∧TJ.V E a G s s'∧RnK nI s'∧∀x,s.met x=0→s'.met x≠0→TJ.R E a x
theorem TJ.V.reach {E:Nat→List Nat} {G:List Nat} {a y:Nat} (hg:∀g∈G,TJ.R E g a) (hy:y∈E a):∀g∈a :: G,TJ.R E g y:=by
 intro g h
 rcases List.mem_cons.1 h with e | e
 ·rw[e];exact TJ.R.step hy
 ·exact (hg g e).trans (TJ.R.step hy)
theorem close_any (W0:World) (S:List Nat) (B gR gm gl gf nI:Nat) (iv:Value) (w:World) (ov:Value) (s:TJ.S) (rest:List Nat) (a:Nat) (new:List Nat) (back:Bool) (h:RnV W0 S B gR gm gl gf nI iv w ov s) (K:RnK nI s) (hop:s.op=rest++a :: new) (hn:nI≤6000) :
  Calls Tryz.prog 156 #[.pointer (some ⟨gR,0,none⟩),.int .i64 rest.length,.bool back] w fun e w'=>e=.returned (.tuple #[])∧∃ov',RnV W0 S B gR gm gl gf nI iv w' ov' (TJ.closeS s rest a new back):=by
 have hlen:(nz s.op).length=rest.length+(new.length+1):=by rw[nz_len,hop];simp
 obtain⟨g,cap,e⟩:=h.opn.open' (by rw[hlen];omega)
 rw[hlen]at e
 subst e
 have hle:rest.length+(new.length+1)≤6000:=by have h7:=K.opl;have h8:=K.cnt;rw[hop]at h7;simp at h7;omega
 obtain⟨cur,hcb,hcc⟩:=OI.tail (rest:=rest) (l:=a :: new) (by have:=h.opn;rw[hop]at this;exact this)
 have HC:Hid (∀(j y:Nat),(a :: new)[j]?=some y→cur[rest.length+j]?=some (.int .i64 y)):=hcc
 have hd:=h.diff
 have hgR:g≠gR:=fun q=>hd.2.2.2.2.2.1 (by rw[q];rfl)
 have hgF:g≠gf:=fun q=>hd.2.2.2.2.2.2 (by rw[q];rfl)
 have hs:=h.shut (rest.length) (by rw[hop];simp)
 have hct:s.op.take rest.length=rest:=by rw[hop];simp
 rw[hct]at hs
 have HR:Hid (∀x∈a :: new,x<nI):=fun x hx=>K.rng x (by rw[hop];exact List.mem_append_right _ hx)
 obtain⟨c0,c1,c2,c3,c4,c5,c6⟩:=h.cells
 have fz:=blk_frozen h.blk 3
 have hcap:rest.length+(new.length+1)≤cap:=OI.cap' h.opn
 obtain⟨W1,hW1⟩:∃W1,w.setCell ⟨gR,3,none⟩ (.slice (some ⟨g,0,none⟩) rest.length cap)=W1:=⟨_,rfl⟩
 have HS:Hid (RnV W0 S B gR gm gl gf nI iv W1 (.slice (some ⟨g,0,none⟩) rest.length cap) { s with op:=rest }):=by rw[←hW1];exact hs
 have HCB:Hid (W1.heap[g]?=some (.cells cur 3)):=by show _=_;rw[←hW1];exact blk_other hcb (fun q=>hgR q.symm) _ _
 clear hs hcb hcc hd h K hct hlen c0 c1 c2 c4 c5 c6
 obtain⟨P,hP⟩:∃P,rest.length=P:=⟨_,rfl⟩
 obtain⟨M,hM⟩:∃M,new.length=M:=⟨_,rfl⟩
 have HP:Hid (rest.length=P):=hP
 have HM:Hid (new.length=M):=hM
 rw[hP]at hle HC hcap hW1 HS
 rw[hM]at hle hcap
 rw[hP]
 have hnc:¬cap=P:=by omega
 rw[hP,hM]at c3
 clear hP hM hop
 go_enter Tryz.func156,Tryz.ntmps156
 go_wp2_with fail
 clear hW1 c3 fz
 go_loopw [27] (fun i wr=>∃m:Nat,m≤M+1∧i=.int .i64 m∧Hid (RnV W0 S B gR gm gl gf nI iv wr (.slice (some ⟨g,0,none⟩) P cap) { s with op:=rest,off:=offT s ((a :: new).take m) })∧Hid (wr.heap[g]?=some (.cells cur 3))) (fun i _=>M+1-(intOf i).toNat)
 case atStart =>
  refine⟨0,Nat.zero_le _,rfl,?_,HCB⟩
  have e:offT s ((a :: new).take 0)=s.off:=by funext x;simp[offT]
  rw[e];exact HS
 case round =>
  clear HS HCB
  obtain⟨m,hm,rfl,HI,HCB⟩:=hrel
  by_cases k1:m<M+1
  ·obtain⟨y,hy⟩:∃y,(a :: new)[m]?=some y:=⟨(a :: new)[m]'(by simp;rw[HM.out];omega),by simp⟩
   have hyI:y<nI:=HR.out y (List.mem_of_getElem? hy)
   have cy:wr.cell? ⟨g,P+m,none⟩=some (.int .i64 y):=by rw[blk_cell HCB.out];exact HC.out m y hy
   obtain⟨_,_,_,_,c4,_,_⟩:=HI.out.cells
   obtain⟨_,_,cf⟩:=HI.out.at_ hyI
   have zf:=blk_frozen HI.out.off y
   have hi2:=HI.out.mark y
   dsimp only at hi2
   rw[offT_next s (a :: new) m y hy]at hi2
   have HI2:Hid (RnV W0 S B gR gm gl gf nI iv (wr.setCell ⟨gf,y,none⟩ (.bool true)) (.slice (some ⟨g,0,none⟩) P cap) { s with op:=rest,off:=offT s ((a :: new).take (m+1)) }):=hi2
   have HCB2:Hid ((wr.setCell ⟨gf,y,none⟩ (.bool true)).heap[g]?=some (.cells cur 3)):=blk_other HCB.out (fun q=>hgF q.symm) _ _
   clear HI HCB hi2 hy
   go_wp2_with fail
   go_roundw
   case rel=>exact⟨m+1,by omega,by go_num,HI2,HCB2⟩
   case measure=>simp[intOf];omega
  ·have e:m=M+1:=by omega
   subst e
   have HT:Hid (offT s ((a :: new).take (M+1))=fun x=>decide (x∈a :: new) || s.off x):=by show _=_;rw[List.take_of_length_le (by simp[HM.out])];rfl
   rw[HT.out]at HI
   have HSL:Hid (SlA wr 1 intC (some ⟨g,P,none⟩) (nz (a :: new))):=tail_sl HCB.out HC.out
   obtain⟨F,hF⟩:∃F,TJ.mn a new=F:=⟨_,rfl⟩
   have hmin:∀W,SlA W 1 intC (some ⟨g,P,none⟩) (nz (a :: new))→Calls Tryz.prog 217 #[.slice (some ⟨g,P,none⟩) (M+1) (cap-P)] W fun e w'=>e=.returned (.int .i64 F)∧Below W.heap.size W w':=fun W hW=>by
    have:=min_any (some ⟨g,P,none⟩) (cap-P) a new W hW (by rw[HM.out];omega)
    rw[HM.out,hF]at this
    exact this
   have HMI:Hid _:=hmin
   clear hmin
   cases back
   ·by_cases hM0:M=0
    ·subst hM0
     have hnil:new=[]:=List.length_eq_zero_iff.1 HM.out
     have c6:wr.cell? ⟨gR,6,none⟩=some (.int .i64 (lsI s.least)):=HI.out.cells.2.2.2.2.2.2
     go_wp2_with (go_at_call 217;refine (HMI.out _ HSL.out).mono ?_;rintro e w3 ⟨rfl,hb3⟩;have HB3:Hid (Below wr.heap.size wr w3):=hb3;have c7:w3.cell? ⟨gR,6,none⟩=some (.int .i64 (lsI s.least)):=cell_later hb3 c6;have z7:∀j,w3.frozen? ⟨gR,j,none⟩=false:=blk_frozen (blk_later hb3 HI.out.blk);clear hb3)
     go_end0
     refine⟨rfl,.slice (some ⟨g,0,none⟩) P cap,?_⟩
     have h9:=HI.out.later HB3.out
     rw[show TJ.closeS s rest a new false={ s with op:=rest,off:=fun x=>decide (x∈a :: new) || s.off x,least:=s.least } from by unfold TJ.closeS;rw[if_neg (by rw[hnil];simp)]]
     exact h9
    ·have tM:decide ((1:Int)<(M:Int)+1)=true:=by simp;omega
     have hne:new≠[]:=fun q=>hM0 (by rw[←HM.out,q];rfl)
     cases hls:s.least with
     | none =>
      have c6:wr.cell? ⟨gR,6,none⟩=some (.int .i64 (-1)):=by have h8:=HI.out.cells.2.2.2.2.2.2;dsimp only at h8;rw[hls]at h8;exact h8
      go_wp2_with (go_at_call 217;refine (HMI.out _ HSL.out).mono ?_;rintro e w3 ⟨rfl,hb3⟩;have HB3:Hid (Below wr.heap.size wr w3):=hb3;have c7:w3.cell? ⟨gR,6,none⟩=some (.int .i64 (-1)):=cell_later hb3 c6;have z7:∀j,w3.frozen? ⟨gR,j,none⟩=false:=blk_frozen (blk_later hb3 HI.out.blk);clear hb3)
      go_end0
      refine⟨rfl,.slice (some ⟨g,0,none⟩) P cap,?_⟩
      have h9:=(HI.out.later HB3.out).setLeast F
      rw[show TJ.closeS s rest a new false={ s with op:=rest,off:=fun x=>decide (x∈a :: new) || s.off x,least:=some F } from by unfold TJ.closeS;rw[if_pos (.inr hne),hls,hF];rfl]
      exact h9
     | some l =>
      have c6:wr.cell? ⟨gR,6,none⟩=some (.int .i64 (l:Int)):=by have h8:=HI.out.cells.2.2.2.2.2.2;dsimp only at h8;rw[hls]at h8;exact h8
      have tl:decide ((l:Int)<0)=false:=by simp
      by_cases hFl:F<l
      ·have tF:decide ((F:Int)<(l:Int))=true:=by simpa using hFl
       go_wp2_with (go_at_call 217;refine (HMI.out _ HSL.out).mono ?_;rintro e w3 ⟨rfl,hb3⟩;have HB3:Hid (Below wr.heap.size wr w3):=hb3;have c7:w3.cell? ⟨gR,6,none⟩=some (.int .i64 ((l:Int))):=cell_later hb3 c6;have z7:∀j,w3.frozen? ⟨gR,j,none⟩=false:=blk_frozen (blk_later hb3 HI.out.blk);clear hb3)
       go_end0
       refine⟨rfl,.slice (some ⟨g,0,none⟩) P cap,?_⟩
       have h9:=(HI.out.later HB3.out).setLeast F
       rw[show TJ.closeS s rest a new false={ s with op:=rest,off:=fun x=>decide (x∈a :: new) || s.off x,least:=some F } from by unfold TJ.closeS;rw[if_pos (.inr hne),hls,hF,show TJ.better (some l) F=some F from if_pos hFl]]
       exact h9
      ·have tF:decide ((F:Int)<(l:Int))=false:=by simpa using hFl
       go_wp2_with (go_at_call 217;refine (HMI.out _ HSL.out).mono ?_;rintro e w3 ⟨rfl,hb3⟩;have HB3:Hid (Below wr.heap.size wr w3):=hb3;have c7:w3.cell? ⟨gR,6,none⟩=some (.int .i64 ((l:Int))):=cell_later hb3 c6;have z7:∀j,w3.frozen? ⟨gR,j,none⟩=false:=blk_frozen (blk_later hb3 HI.out.blk);clear hb3)
       go_end0
       refine⟨rfl,.slice (some ⟨g,0,none⟩) P cap,?_⟩
       have h9:=HI.out.later HB3.out
       rw[show TJ.closeS s rest a new false={ s with op:=rest,off:=fun x=>decide (x∈a :: new) || s.off x,least:=s.least } from by unfold TJ.closeS;rw[if_pos (.inr hne),hF,hls,show TJ.better (some l) F=some l from if_neg hFl]]
       exact h9
   ·skip
    cases hls:s.least with
    | none =>
     have c6:wr.cell? ⟨gR,6,none⟩=some (.int .i64 (-1)):=by have h8:=HI.out.cells.2.2.2.2.2.2;dsimp only at h8;rw[hls]at h8;exact h8
     go_wp2_with (go_at_call 217;refine (HMI.out _ HSL.out).mono ?_;rintro e w3 ⟨rfl,hb3⟩;have HB3:Hid (Below wr.heap.size wr w3):=hb3;have c7:w3.cell? ⟨gR,6,none⟩=some (.int .i64 (-1)):=cell_later hb3 c6;have z7:∀j,w3.frozen? ⟨gR,j,none⟩=false:=blk_frozen (blk_later hb3 HI.out.blk);clear hb3)
     go_end0
     refine⟨rfl,.slice (some ⟨g,0,none⟩) P cap,?_⟩
     have h9:=(HI.out.later HB3.out).setLeast F
     rw[show TJ.closeS s rest a new true={ s with op:=rest,off:=fun x=>decide (x∈a :: new) || s.off x,least:=some F } from by unfold TJ.closeS;rw[if_pos (.inl rfl),hls,hF];rfl]
     exact h9
    | some l =>
     have c6:wr.cell? ⟨gR,6,none⟩=some (.int .i64 (l:Int)):=by have h8:=HI.out.cells.2.2.2.2.2.2;dsimp only at h8;rw[hls]at h8;exact h8
     have tl:decide ((l:Int)<0)=false:=by simp
     by_cases hFl:F<l
     ·have tF:decide ((F:Int)<(l:Int))=true:=by simpa using hFl
      go_wp2_with (go_at_call 217;refine (HMI.out _ HSL.out).mono ?_;rintro e w3 ⟨rfl,hb3⟩;have HB3:Hid (Below wr.heap.size wr w3):=hb3;have c7:w3.cell? ⟨gR,6,none⟩=some (.int .i64 ((l:Int))):=cell_later hb3 c6;have z7:∀j,w3.frozen? ⟨gR,j,none⟩=false:=blk_frozen (blk_later hb3 HI.out.blk);clear hb3)
      go_end0
      refine⟨rfl,.slice (some ⟨g,0,none⟩) P cap,?_⟩
      have h9:=(HI.out.later HB3.out).setLeast F
      rw[show TJ.closeS s rest a new true={ s with op:=rest,off:=fun x=>decide (x∈a :: new) || s.off x,least:=some F } from by unfold TJ.closeS;rw[if_pos (.inl rfl),hls,hF,show TJ.better (some l) F=some F from if_pos hFl]]
      exact h9
     ·have tF:decide ((F:Int)<(l:Int))=false:=by simpa using hFl
      go_wp2_with (go_at_call 217;refine (HMI.out _ HSL.out).mono ?_;rintro e w3 ⟨rfl,hb3⟩;have HB3:Hid (Below wr.heap.size wr w3):=hb3;have c7:w3.cell? ⟨gR,6,none⟩=some (.int .i64 ((l:Int))):=cell_later hb3 c6;have z7:∀j,w3.frozen? ⟨gR,j,none⟩=false:=blk_frozen (blk_later hb3 HI.out.blk);clear hb3)
      go_end0
      refine⟨rfl,.slice (some ⟨g,0,none⟩) P cap,?_⟩
      have h9:=HI.out.later HB3.out
      rw[show TJ.closeS s rest a new true={ s with op:=rest,off:=fun x=>decide (x∈a :: new) || s.off x,least:=s.least } from by unfold TJ.closeS;rw[if_pos (.inl rfl),hF,hls,show TJ.better (some l) F=some l from if_neg hFl]]
      exact h9
end Go.Proofs.YtjglgbepobmjhaaGreatDoor
