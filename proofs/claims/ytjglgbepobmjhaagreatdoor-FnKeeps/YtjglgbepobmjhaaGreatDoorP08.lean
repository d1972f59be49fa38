import Derived.Test.YtjglgbepobmjhaaGreatDoorP07
import Derived.Test.YtjglgbepobmjhaaGreatDoorP04
import Derived.Laws.Externs
set_option linter.unusedVariables false
set_option linter.unusedSimpArgs false
set_option maxRecDepth 20000
set_option maxHeartbeats 8000000
namespace Go.Proofs.YtjglgbepobmjhaaGreatDoor
open Go.RowKit
theorem OI.shrink {w:World} {B g n cap:Nat} {ts:List Int} (h:OI w B (.slice (some ⟨g,0,none⟩) n cap) ts) (m:Nat) (hm:m≤ts.length):OI w B (.slice (some ⟨g,0,none⟩) m cap) (ts.take m):=by
 obtain⟨h1,h2⟩:=h
 have hl:(ts.take m).length=m:=by simp;omega
 refine⟨by rw[flat_int];simp,?_⟩
 rcases h2 with ⟨e,_⟩ | ⟨g',c',cur,e,hb,hg,hll,hmx,hs,ht⟩
 ·cases e
 ·cases e
  rw[hl]
  refine .inr ⟨g,_,cur,rfl,hb,hg,by omega,hmx,hs,?_⟩
  rw[flat_int]at ht ⊢
  rw[List.map_take,←ht,List.take_take]
  congr 1
  omega
structure PoI (B gp g n cap:Nat) (o:Obj) (S:List Nat) (w:World) (mem:Nat→Prop) (wr:World) (l:List Nat) (i:Nat):Prop where
 blk:wr.heap[gp]?=some o
 row:OI wr B (.slice (some ⟨g,0,none⟩) n cap) (nz l)
 len:l.length=n
 dn:HP.Dn l i
 nd:HP.Nd l
 mem:∀z,z∈l↔mem z
 but:ButL S w wr
theorem PoI.drewN {B gp g n cap:Nat} {o:Obj} {S:List Nat} {w:World} {mem:Nat→Prop} {wr:World} {l:List Nat} {i:Nat} (h:PoI B gp g n cap o S w mem wr l i) (q:Nat):PoI B gp g n cap o S w mem (wr.drewN q) l i :=
 ⟨h.blk,h.row,h.len,h.dn,h.nd,h.mem,h.but.drewN q⟩
theorem PoI.step {B gp g n cap:Nat} {o:Obj} {S:List Nat} {w:World} {mem:Nat→Prop} {wr:World} {l:List Nat} {i j u v:Nat} (h:PoI B gp g n cap o S w mem wr l i) (hj:j=2*i+1∨j=2*i+2) (hu:l[i]?=some u) (hv:l[j]?=some v) (huv:v<u) (hmin:∀(k z:Nat),(k=2*i+1∨k=2*i+2)→l[k]?=some z→v≤z) (hS:g∈S∨w.heap.size≤g) (hgp:gp≠g) :
  PoI B gp g n cap o S w mem ((wr.setCell ⟨g,i,none⟩ (.int .i64 v)).setCell ⟨g,j,none⟩ (.int .i64 u)) (HP.swp l i j u v) j:=by
 have hne:i≠j:=by omega
 have hl:=h.len
 have hil:=(List.getElem?_eq_some_iff.1 hu).1
 have hjl:=(List.getElem?_eq_some_iff.1 hv).1
 refine⟨blk_other (blk_other h.blk hgp.symm i _) hgp.symm j _,?_,by rw[HP.swp_len];exact hl,h.dn.step hj hu hv huv hmin,HP.swp_nd h.nd hne hu hv,fun z=>by rw[HP.swp_mem hne hu hv];exact h.mem z,(h.but.seto hS i _).seto hS j _⟩
 have:=OI.set (OI.set h.row i v (by rw[nz_len];omega)) j u (by rw[List.length_set,nz_len];omega)
 rw[nz_set,nz_set]at this
 exact this
theorem pop_any (gp off B:Nat) (hv:Value) (l:List Nat) (x:Nat) (w:World) (arr:Array Value) (ty:TypeId) (hb:w.heap[gp]?=some (.cells arr ty)) (hc:arr[off]?=some hv) (hty:ty≠3) (hh:HpV w B hv l) (hx:l[0]?=some x) (hl:l.length≤6000) (hB:B≤w.heap.size) :
  Calls Tryz.prog 37 #[.pointer (some ⟨gp,off,none⟩)] w fun e w'=>e=.returned (.int .i64 x)∧∃hv' l',w'.heap[gp]?=some (.cells (arr.setIfInBounds off hv') ty)∧HpV w' B hv' l'∧(∀z,z∈l'↔z≠x∧z∈l)∧l'.length+1=l.length∧ButL (gp :: hv.ownBlock.toList) w w'∧hv'.ownBlock=hv.ownBlock:=by
 obtain⟨aa,cc,rfl⟩:=hh.row.val
 rw[nz_len]at *
 have hpos:=(List.getElem?_eq_some_iff.1 hx).1
 obtain⟨g,rfl⟩:∃g,aa=some ⟨g,0,none⟩:=by
  rcases hh.row.2 with ⟨e,_⟩ | ⟨g,c',cur,e,_⟩
  ·injection e with e1 e2 e3;omega
  ·injection e with e1 e2 e3;exact⟨g,e1⟩
 obtain⟨n,hn⟩:∃n,l.length=n+1:=⟨l.length-1,by omega⟩
 obtain⟨y,hy⟩:∃y,l[n]?=some y:=⟨l[n]'(by omega),by simp⟩
 have hgne:gp≠g:=by
  rintro rfl
  obtain⟨cur,e⟩:=hh.row.blk
  rw[hb]at e;cases e;exact hty rfl
 rw[hn]at hl hh hc ⊢
 have p0:w.cell? ⟨gp,off,none⟩=some (.slice (some ⟨g,0,none⟩) (n+1) cc):=by rw[blk_cell hb];exact hc
 have c0:w.cell? ⟨g,0,none⟩=some (.int .i64 x):=hh.row.cell (by rw[nz_get,hx];rfl)
 have c1:w.cell? ⟨g,n,none⟩=some (.int .i64 y):=hh.row.cell (by rw[nz_get,hy];rfl)
 have hcc:n≤cc:=by
  rcases hh.row.2 with ⟨e,_⟩ | ⟨g0,c0,cur,e,_,_,e3,_⟩
  ·cases e
  ·injection e with e1 e2 e4;rw[nz_len]at e3;omega
 have hS:g∈gp :: (Value.slice (some (⟨g,0,none⟩:Addr)) (n+1) cc).ownBlock.toList∨w.heap.size≤g:=.inl (by simp[Value.ownBlock])
 have hoff:off<arr.size:=(Array.getElem?_eq_some_iff.1 hc).1
 have HP0:Hid (PoI B gp g n cc (.cells (arr.setIfInBounds off (.slice (some ⟨g,0,none⟩) n cc)) ty) (gp :: (Value.slice (some (⟨g,0,none⟩:Addr)) (n+1) cc).ownBlock.toList) w (fun z=>z≠x∧z∈l) ((w.setCell ⟨g,0,none⟩ (.int .i64 y)).setCell ⟨gp,off,none⟩ (.slice (some ⟨g,0,none⟩) n cc)) ((l.set 0 y).take n) 0):=by
  have hset:=OI.set hh.row 0 (y:Int) (by rw[nz_len];omega)
  rw[nz_set]at hset
  have hshr:=OI.shrink hset n (by rw[nz_len,List.length_set];omega)
  rw[nz_take]at hshr
  have hdn:=HP.dn_pop hh.hp y
  rw[hn,Nat.add_sub_cancel]at hdn
  have hget:∀(k z:Nat),((l.set 0 y).take n)[k]?=some z→k<n∧((k=0∧z=y)∨(0<k∧l[k]?=some z)):=fun k z hk=>by
   rw[List.getElem?_take]at hk
   split at hk
   ·rename_i hkn
    rw[List.getElem?_set]at hk
    split at hk
    ·rename_i e;subst e;first | (first | (rw[if_pos (by omega)]at hk;cases hk;exact⟨hkn,.inl ⟨rfl,rfl⟩⟩) | (cases hk;exact⟨hkn,.inl ⟨rfl,rfl⟩⟩)) | (cases hk;exact⟨hkn,.inl ⟨rfl,rfl⟩⟩)
    ·rename_i e;exact⟨hkn,.inr ⟨by omega,hk⟩⟩
   ·cases hk
  refine⟨blk_set (blk_other hb (fun e=>hgne e.symm) 0 _) off _,ORow.set_own hshr (fun e=>hgne (by cases e;rfl)) off _,by simp;omega,hdn,?_,?_,?_⟩
  ·intro i j z hi hj
   obtain⟨i1,i2⟩:=hget i z hi
   obtain⟨j1,j2⟩:=hget j z hj
   rcases i2 with ⟨q1,q2⟩ | ⟨q1,q2⟩<;>rcases j2 with ⟨r1,r2⟩ | ⟨r1,r2⟩
   ·omega
   ·subst q2;have:=hh.nd j n z r2 hy;omega
   ·subst r2;have:=hh.nd i n z q2 hy;omega
   ·exact hh.nd i j z q2 r2
  ·intro z
   constructor
   ·intro hz
    obtain⟨k,hk⟩:=List.getElem?_of_mem hz
    obtain⟨k1,k2⟩:=hget k z hk
    rcases k2 with ⟨q1,q2⟩ | ⟨q1,q2⟩
    ·subst q2
     exact⟨fun e=>by subst e;have:=hh.nd 0 n z hx hy;omega,List.mem_of_getElem? hy⟩
    ·exact⟨fun e=>by subst e;have:=hh.nd 0 k z hx q2;omega,List.mem_of_getElem? q2⟩
   ·rintro ⟨z1,z2⟩
    obtain⟨k,hk⟩:=List.getElem?_of_mem z2
    have hkl:=(List.getElem?_eq_some_iff.1 hk).1
    by_cases e0:k=0
    ·subst e0;rw[hx]at hk;cases hk;exact absurd rfl z1
    ·by_cases en:k=n
     ·subst en
      rw[hy]at hk
      cases hk
      refine List.mem_of_getElem? (i:=0) ?_
      rw[List.getElem?_take,if_pos (by omega),List.getElem?_set,if_pos rfl,if_pos (by omega)]
     ·refine List.mem_of_getElem? (i:=k) ?_
      rw[List.getElem?_take,if_pos (by omega),List.getElem?_set,if_neg (by omega)]
      exact hk
  ·exact ((ButL.refl _ w).seto hS 0 _).set (by simp) off _
 have z0:=hh.row.froz
 have z1:=blk_frozen hb
 go_enter Tryz.func37,Tryz.ntmps37
 go_wp2_with fail
 go_quiet (fail)
 go_wp2_with fail
 clear hb hc hx hpos hh hy
 go_region
 go_wp2_with fail
 have HP1:Hid (PoI B gp g n cc (.cells (arr.setIfInBounds off (.slice (some ⟨g,0,none⟩) n cc)) ty) (gp :: (Value.slice (some (⟨g,0,none⟩:Addr)) (n+1) cc).ownBlock.toList) w (fun z=>z≠x∧z∈l) (((w.drewN (nq+1)).setCell ⟨g,0,none⟩ (.int .i64 y)).setCell ⟨gp,off,none⟩ (.slice (some ⟨g,0,none⟩) n cc)) ((l.set 0 y).take n) 0):=HP0.out.drewN (nq+1)
 clear HP0 p0 c0 c1 z0 z1
 go_loopw [5,6] (fun a5 a6 wr=>∃(i b:Nat) (l1:List Nat),a5=.int .i64 i∧a6=.int .i64 b∧Hid (b=2*i+1)∧Hid (PoI B gp g n cc (.cells (arr.setIfInBounds off (.slice (some ⟨g,0,none⟩) n cc)) ty) (gp :: (Value.slice (some (⟨g,0,none⟩:Addr)) (n+1) cc).ownBlock.toList) w (fun z=>z≠x∧z∈l) wr l1 i)) (fun a5 _ _=>n-(intOf a5).toNat)
 case atStart=>exact⟨0,1,_,rfl,rfl,rfl,HP1⟩
 case round =>
  clear HP1
  obtain⟨i,b,l1,rfl,rfl,HBi,HI⟩:=hrel
  have hbi:b=2*i+1:=HBi.out
  by_cases hbn:b<n
  ·have hin:i<n:=by omega
   obtain⟨u,hu⟩:∃u,l1[i]?=some u:=⟨l1[i]'(by have:=HI.out.len;omega),by simp⟩
   obtain⟨v,hv⟩:∃v,l1[b]?=some v:=⟨l1[b]'(by have:=HI.out.len;omega),by simp⟩
   have p3:wr.cell? ⟨gp,off,none⟩=some (.slice (some ⟨g,0,none⟩) n cc):=by rw[blk_cell HI.out.blk];simp[hoff]
   have z4:=HI.out.row.froz
   have c1:wr.cell? ⟨g,i,none⟩=some (.int .i64 u):=HI.out.row.cell (by rw[nz_get,hu];rfl)
   have c2:wr.cell? ⟨g,b,none⟩=some (.int .i64 v):=HI.out.row.cell (by rw[nz_get,hv];rfl)
   have HU:Hid (l1[i]?=some u):=hu
   have HV:Hid (l1[b]?=some v):=hv
   have b0:(0:Int)≤(i:Int):=by omega
   have b1:(i:Int)<(n:Int):=by omega
   have b2:(0:Int)≤(b:Int):=by omega
   have b3:(b:Int)<(n:Int):=by omega
   clear hu hv
   by_cases k1:b+1<n
   ·obtain⟨v2,hv2⟩:∃v,l1[b+1]?=some v:=⟨l1[b+1]'(by have:=HI.out.len;omega),by simp⟩
    have c3:wr.cell? ⟨g,b+1,none⟩=some (.int .i64 v2):=HI.out.row.cell (by rw[nz_get,hv2];rfl)
    have HV2:Hid (l1[b+1]?=some v2):=hv2
    have t0:(b:Int)+1<(n:Int):=by omega
    have t3:(0:Int)≤(b:Int)+1:=by omega
    have t4:((b:Int)+1).toNat=b+1:=by omega
    clear hv2
    by_cases k2:v2<v
    ·have t1:v2<v:=k2
     have HM:Hid (∀(k z:Nat),(k=2*i+1∨k=2*i+2)→l1[k]?=some z→v2≤z):=by
      rintro k z (e | e) hz
      ·rw[e,←hbi,HV.out]at hz;cases hz;omega
      ·rw[show k=b+1 by omega,HV2.out]at hz;cases hz;exact Nat.le_refl _
     rcases Nat.lt_or_ge v2 u with k3 | k3
     rotate_left
     ·clear hbi
      have t2:decide (u≤v2)=true:=by simp;omega
      go_wp2_with fail
      go_quiet (fail)
      revert nq
      intro nq0
      go_wp2_with fail
      go_quiet (fail)
      go_wp2_with fail
      go_ret
      exact⟨rfl,_,l1,HI.out.blk,⟨HI.out.row,HI.out.dn.done (b:=(b+1)) (by have h9:b=2*i+1:=HBi.out;omega) HU.out HV2.out (by omega) HM.out,HI.out.nd⟩,HI.out.mem,by rw[HI.out.len],((HI.out.drewN nq0).drewN nq).but,rfl⟩
     ·clear hbi
      have t2:decide (u≤v2)=false:=by simp;omega
      go_wp2_with fail
      go_quiet (fail)
      revert nq
      intro nq0
      go_wp2_with fail
      go_quiet (fail)
      go_wp2_with fail
      have HE:Hid _:=(HI.out.drewN nq0).drewN nq
      obtain⟨wq,hwq⟩:∃wq,(wr.drewN nq0).drewN nq=wq:=⟨_,rfl⟩
      rw[hwq]at HE ⊢
      have d1:wq.cell? ⟨g,i,none⟩=some (.int .i64 u):=by rw[←hwq];exact c1
      have d2:wq.cell? ⟨g,(b+1),none⟩=some (.int .i64 v2):=by rw[←hwq];exact c3
      have d3:wq.cell? ⟨gp,off,none⟩=some (.slice (some ⟨g,0,none⟩) n cc):=by rw[←hwq];exact p3
      have z5:=HE.out.row.froz
      have d4:(wq.setCell ⟨g,i,none⟩ (.int .i64 v2)).cell? ⟨g,(b+1),none⟩=some (.int .i64 v2):=(OI.set HE.out.row i v2 (by rw[nz_len,HE.out.len];omega)).cell (by rw[List.getElem?_set_ne (by have h9:b=2*i+1:=HBi.out;omega),nz_get,HV2.out];rfl)
      have z6:∀k,(wq.setCell ⟨g,i,none⟩ (.int .i64 v2)).frozen? ⟨g,k,none⟩=false:=(OI.set HE.out.row i v2 (by rw[nz_len,HE.out.len];omega)).froz
      have HN:Hid _:=HE.out.step (j:=(b+1)) (by have h9:b=2*i+1:=HBi.out;omega) HU.out HV2.out (by omega) HM.out hS hgne
      clear c1 c2 p3 z4 hwq c3
      go_region
      go_wp2_with fail
      go_roundw
      case rel=>exact⟨(b+1),2*(b+1)+1,_,by go_num,by go_num,rfl,HN.out.drewN 1⟩
      case measure=>have h9:b=2*i+1:=HBi.out;simp[intOf];omega
    ·have t1:decide (v2<v)=false:=by simpa using k2
     have HM:Hid (∀(k z:Nat),(k=2*i+1∨k=2*i+2)→l1[k]?=some z→v≤z):=by
      rintro k z (e | e) hz
      ·rw[e,←hbi,HV.out]at hz;cases hz;exact Nat.le_refl _
      ·rw[show k=b+1 by omega,HV2.out]at hz;cases hz;omega
     rcases Nat.lt_or_ge v u with k3 | k3
     rotate_left
     ·clear hbi
      have t2:decide (u≤v)=true:=by simp;omega
      go_wp2_with fail
      go_quiet (fail)
      revert nq
      intro nq0
      go_wp2_with fail
      go_quiet (fail)
      go_wp2_with fail
      go_ret
      exact⟨rfl,_,l1,HI.out.blk,⟨HI.out.row,HI.out.dn.done (b:=b) (by have h9:b=2*i+1:=HBi.out;omega) HU.out HV.out (by omega) HM.out,HI.out.nd⟩,HI.out.mem,by rw[HI.out.len],((HI.out.drewN nq0).drewN nq).but,rfl⟩
     ·clear hbi
      have t2:decide (u≤v)=false:=by simp;omega
      go_wp2_with fail
      go_quiet (fail)
      revert nq
      intro nq0
      go_wp2_with fail
      go_quiet (fail)
      go_wp2_with fail
      have HE:Hid _:=(HI.out.drewN nq0).drewN nq
      obtain⟨wq,hwq⟩:∃wq,(wr.drewN nq0).drewN nq=wq:=⟨_,rfl⟩
      rw[hwq]at HE ⊢
      have d1:wq.cell? ⟨g,i,none⟩=some (.int .i64 u):=by rw[←hwq];exact c1
      have d2:wq.cell? ⟨g,b,none⟩=some (.int .i64 v):=by rw[←hwq];exact c2
      have d3:wq.cell? ⟨gp,off,none⟩=some (.slice (some ⟨g,0,none⟩) n cc):=by rw[←hwq];exact p3
      have z5:=HE.out.row.froz
      have d4:(wq.setCell ⟨g,i,none⟩ (.int .i64 v)).cell? ⟨g,b,none⟩=some (.int .i64 v):=(OI.set HE.out.row i v (by rw[nz_len,HE.out.len];omega)).cell (by rw[List.getElem?_set_ne (by have h9:b=2*i+1:=HBi.out;omega),nz_get,HV.out];rfl)
      have z6:∀k,(wq.setCell ⟨g,i,none⟩ (.int .i64 v)).frozen? ⟨g,k,none⟩=false:=(OI.set HE.out.row i v (by rw[nz_len,HE.out.len];omega)).froz
      have HN:Hid _:=HE.out.step (j:=b) (by have h9:b=2*i+1:=HBi.out;omega) HU.out HV.out (by omega) HM.out hS hgne
      clear c1 c2 p3 z4 hwq c3
      go_region
      go_wp2_with fail
      go_roundw
      case rel=>exact⟨b,2*b+1,_,by go_num,by go_num,rfl,HN.out.drewN 1⟩
      case measure=>have h9:b=2*i+1:=HBi.out;simp[intOf];omega
   ·have t0:decide ((b:Int)+1<(n:Int))=false:=by simp;omega
    have HM:Hid (∀(k z:Nat),(k=2*i+1∨k=2*i+2)→l1[k]?=some z→v≤z):=by
     rintro k z (e | e) hz
     ·rw[e,←hbi,HV.out]at hz;cases hz;exact Nat.le_refl _
     ·have:=(List.getElem?_eq_some_iff.1 hz).1;have:=HI.out.len;omega
    rcases Nat.lt_or_ge v u with k3 | k3
    rotate_left
    ·clear hbi
     have t2:decide (u≤v)=true:=by simp;omega
     go_wp2_with fail
     go_quiet (fail)
     revert nq
     intro nq0
     go_wp2_with fail
     go_quiet (fail)
     go_wp2_with fail
     go_ret
     exact⟨rfl,_,l1,HI.out.blk,⟨HI.out.row,HI.out.dn.done (b:=b) (by have h9:b=2*i+1:=HBi.out;omega) HU.out HV.out (by omega) HM.out,HI.out.nd⟩,HI.out.mem,by rw[HI.out.len],((HI.out.drewN nq0).drewN nq).but,rfl⟩
    ·clear hbi
     have t2:decide (u≤v)=false:=by simp;omega
     go_wp2_with fail
     go_quiet (fail)
     revert nq
     intro nq0
     go_wp2_with fail
     go_quiet (fail)
     go_wp2_with fail
     have HE:Hid _:=(HI.out.drewN nq0).drewN nq
     obtain⟨wq,hwq⟩:∃wq,(wr.drewN nq0).drewN nq=wq:=⟨_,rfl⟩
     rw[hwq]at HE ⊢
     have d1:wq.cell? ⟨g,i,none⟩=some (.int .i64 u):=by rw[←hwq];exact c1
     have d2:wq.cell? ⟨g,b,none⟩=some (.int .i64 v):=by rw[←hwq];exact c2
     have d3:wq.cell? ⟨gp,off,none⟩=some (.slice (some ⟨g,0,none⟩) n cc):=by rw[←hwq];exact p3
     have z5:=HE.out.row.froz
     have d4:(wq.setCell ⟨g,i,none⟩ (.int .i64 v)).cell? ⟨g,b,none⟩=some (.int .i64 v):=(OI.set HE.out.row i v (by rw[nz_len,HE.out.len];omega)).cell (by rw[List.getElem?_set_ne (by have h9:b=2*i+1:=HBi.out;omega),nz_get,HV.out];rfl)
     have z6:∀k,(wq.setCell ⟨g,i,none⟩ (.int .i64 v)).frozen? ⟨g,k,none⟩=false:=(OI.set HE.out.row i v (by rw[nz_len,HE.out.len];omega)).froz
     have HN:Hid _:=HE.out.step (j:=b) (by have h9:b=2*i+1:=HBi.out;omega) HU.out HV.out (by omega) HM.out hS hgne
     clear c1 c2 p3 z4 hwq
     go_region
     go_wp2_with fail
     go_roundw
     case rel=>exact⟨b,2*b+1,_,by go_num,by go_num,rfl,HN.out.drewN 1⟩
     case measure=>have h9:b=2*i+1:=HBi.out;simp[intOf];omega
  ·have t0:decide (b<n)=false:=by simpa using hbn
   go_wp2_with fail
   go_ret
   exact⟨rfl,_,l1,HI.out.blk,⟨HI.out.row,HI.out.dn.leaf (by rw[HI.out.len];omega),HI.out.nd⟩,HI.out.mem,by rw[HI.out.len],HI.out.but,rfl⟩
attribute [local go_sem] run_store_float
theorem wi_any (x lo hi:Int) (w:World) :
  Calls Tryz.prog 44 #[.int .i64 x,.int .i64 lo,.int .i64 hi] w fun e w'=>e=.returned (.bool (inR x lo hi))∧w'=w:=by
 by_cases h1:lo≤x
 ·by_cases h2:x≤hi
  ·go_enter Tryz.func44,Tryz.ntmps44
   go_wp2
   go_ret
   exact⟨by simp[inR,h1,h2],rfl⟩
  ·go_enter Tryz.func44,Tryz.ntmps44
   go_wp2
   go_ret
   exact⟨by simp[inR,h1,h2],rfl⟩
 ·go_enter Tryz.func44,Tryz.ntmps44
  go_wp2
  go_ret
  exact⟨by simp[inR];omega,rfl⟩
def EV:Option F3→Value
 | none=>.nilIface
 | some t=>.iface 80 (FV t.1 t.2.1 t.2.2)
theorem fat_any (c p i:Int) (w:World) :
  Calls Tryz.prog 28 #[.int .i64 c,.int .i64 p,.int .i64 i] w fun e w'=>e=.returned (EV (some (c,p,i)))∧w'=w:=by
 go_enter Tryz.func28,Tryz.ntmps28
 go_wp2
 go_ret
 exact⟨rfl,rfl⟩
theorem goes_any (op:Int) (w:World) :
  Calls Tryz.prog 58 #[.int .i64 op] w fun e w'=>e=.returned (.bool (!endsB op))∧w'=w:=by
 cases h1:(op == 19)
 ·cases h2:(op == 29)
  ·cases h3:(op == 30)
   all_goals
    have h1':(op != 19)=true:=by simp[bne,h1]
    have h2':(op != 29)=true:=by simp[bne,h2]
    have h3':(op != 30)=!(op == 30):=rfl
    rw[h3]at h3'
    go_enter Tryz.func58,Tryz.ntmps58
    go_wp2
    go_ret
    exact⟨by simp[endsB,h1,h2,h3,h3'],rfl⟩
  ·have h1':(op != 19)=true:=by simp[bne,h1]
   have h2':(op != 29)=false:=by simp[bne,h2]
   go_enter Tryz.func58,Tryz.ntmps58
   go_wp2
   go_ret
   exact⟨by simp[endsB,h1,h2],rfl⟩
 ·have h1':(op != 19)=false:=by simp[bne,h1]
  go_enter Tryz.func58,Tryz.ntmps58
  go_wp2
  go_ret
  exact⟨by simp[endsB,h1],rfl⟩
theorem params_any (f:FC) (w:World) (hr0:0≤f.d.regs) (hr1:f.d.regs≤250) :
  Calls Tryz.prog 54 #[PV f] w fun e w'=>e=.returned (.bool (inR f.d.params 0 (if f.d.rest then f.d.regs-1 else f.d.regs)))∧Below w.heap.size w w':=by
 cases hr:f.d.rest
 all_goals
  go_enter Tryz.func54,Tryz.ntmps54
  go_wp2_with (go_at_call 44;refine (wi_any _ _ _ _).mono ?_;rintro e w' ⟨rfl,rfl⟩)
  go_ret
  exact⟨by simp,bw1 _ _⟩
theorem isnan_any (x:Nat) (w:World):Calls Tryz.prog 144 #[.float .f64 x] w fun e w'=>e=.returned (.bool (nanB x))∧w'=w:=by
 go_enter Tryz.func144,Tryz.ntmps144
 go_wp2
 go_ret
 exact⟨rfl,rfl⟩
theorem run_bits (x:Nat) (w:World):(callFunc 213 #[.float .f64 x]).run Tryz.prog w=.ok (.value (.int .u64 x)) w:=by
 rw[run_callFunc_extern (e:=Extern.MathFloatBits.float64bits) Tryz.func213 (by kernel_rfl) (by kernel_rfl) (by kernel_rfl) (by kernel_rfl)]
 rfl
theorem signbit0 (w:World):Calls Tryz.prog 145 #[.float .f64 0] w fun e w'=>e=.returned (.bool false)∧w'=w:=by
 have hr:=run_bits 0
 go_enter Tryz.func145,Tryz.ntmps145
 go_wp2
 go_ret
 exact⟨by first | rfl | decide,rfl⟩
theorem signbit1 (w:World):Calls Tryz.prog 145 #[.float .f64 9223372036854775808] w fun e w'=>e=.returned (.bool true)∧w'=w:=by
 have hr:=run_bits 9223372036854775808
 go_enter Tryz.func145,Tryz.ntmps145
 go_wp2
 go_ret
 exact⟨ret_bo (by decide +kernel),rfl⟩
end Go.Proofs.YtjglgbepobmjhaaGreatDoor
