import Derived.Test.YtfejmalmnjmanaaGreatDoorS18
import Derived.Laws.Externs
import Derived.Test.YtfejmalmnjmanaaGreatDoorS14
set_option linter.unusedVariables false
set_option linter.unusedSimpArgs false
set_option maxRecDepth 20000
set_option maxHeartbeats 8000000
namespace Go.Proofs.YtfejmalmnjmanaaGreatDoor
open Go.RowKit
theorem OI.shrink {w:World}{B g n cap:Nat}{ts:List Int} (h:OI w B (.slice (some ⟨g,0,none⟩) n cap) ts) (m:Nat) (hm:m≤ts.length):OI w B (.slice (some ⟨g,0,none⟩) m cap) (ts.take m):=by
 obtain ⟨h1,h2⟩:=h
 have hl:(ts.take m).length=m:=by simp;omega
 refine ⟨by rw[flat_int];simp,?_⟩
 rcases h2 with ⟨e,_⟩|⟨g',c',cur,e,hb,hg,hll,hmx,hs,ht⟩
 ·cases e
 ·cases e
  rw[hl]
  refine .inr ⟨g,_,cur,rfl,hb,hg,by omega,hmx,hs,?_⟩
  rw[flat_int] at ht ⊢
  rw[List.map_take,← ht,List.take_take]
  congr 1
  omega
structure PoI (B gp g n cap:Nat) (o:Obj) (S:List Nat) (w:World) (mem:Nat→Prop) (wr:World) (l:List Nat) (i:Nat):Prop where
 blk:wr.heap[gp]?=some o
 row:OI wr B (.slice (some ⟨g,0,none⟩) n cap) (nz l)
 len:l.length=n
 dn:HP.Dn l i
 nd:HP.Nd l
 mem:∀ z,z∈l ↔ mem z
 but:ButL S w wr
theorem PoI.drewN {B gp g n cap:Nat}{o:Obj}{S:List Nat}{w:World}{mem:Nat→Prop}{wr:World}{l:List Nat}{i:Nat} (h:PoI B gp g n cap o S w mem wr l i) (q:Nat):PoI B gp g n cap o S w mem (wr.drewN q) l i :=
 ⟨h.blk,h.row,h.len,h.dn,h.nd,h.mem,h.but.drewN q⟩
theorem PoI.step {B gp g n cap:Nat}{o:Obj}{S:List Nat}{w:World}{mem:Nat→Prop}{wr:World}{l:List Nat}{i j u v:Nat} (h:PoI B gp g n cap o S w mem wr l i) (hj:j=2*i+1∨j=2*i+2) (hu:l[i]?=some u) (hv:l[j]?=some v) (huv:v<u) (hmin:∀ (k z:Nat),(k=2*i+1∨k=2*i+2)→l[k]?=some z→v≤z) (hS:g∈S∨w.heap.size≤g) (hgp:gp≠g) :
  PoI B gp g n cap o S w mem ((wr.setCell ⟨g,i,none⟩ (.int .i64 v)).setCell ⟨g,j,none⟩ (.int .i64 u)) (HP.swp l i j u v) j:=by
 have hne:i≠j:=by omega
 have hl:=h.len
 have hil:=(List.getElem?_eq_some_iff.1 hu).1
 have hjl:=(List.getElem?_eq_some_iff.1 hv).1
 refine ⟨qFz (qFz h.blk hgp.symm i _) hgp.symm j _,?_,by rw[HP.swp_len];exact hl,h.dn.step hj hu hv huv hmin,HP.swp_nd h.nd hne hu hv,fun z=>by rw[HP.swp_mem hne hu hv];exact h.mem z,(h.but.seto hS i _).seto hS j _⟩
 have:=OI.set (OI.set h.row i v (by rw[nz_len];omega)) j u (by rw[List.length_set,nz_len];omega)
 rw[nz_set,nz_set] at this
 exact this
theorem pop_any (gp off B:Nat) (hv:Value) (l:List Nat) (x:Nat) (w:World) (arr:Array Value) (ty:TypeId) (hb:w.heap[gp]?=some (.cells arr ty)) (hc:arr[off]?=some hv) (hty:ty≠3) (hh:HpV w B hv l) (hx:l[0]?=some x) (hl:l.length≤6000) (hB:B≤w.heap.size) :
  Calls Tryz.prog 84 #[.pointer (some ⟨gp,off,none⟩)] w fun e w'=>e=.returned (.int .i64 x)∧∃ hv' l',w'.heap[gp]?=some (.cells (arr.setIfInBounds off hv') ty)∧HpV w' B hv' l'∧(∀ z,z∈l' ↔ z≠x∧z∈l)∧l'.length+1=l.length∧ButL (gp::hv.ownBlock.toList) w w'∧hv'.ownBlock=hv.ownBlock:=by
 obtain ⟨aa,cc,rfl⟩:=hh.row.val
 rw[nz_len] at *
 have hpos:=(List.getElem?_eq_some_iff.1 hx).1
 obtain ⟨g,rfl⟩:∃ g,aa=some ⟨g,0,none⟩:=by
  rcases hh.row.2 with ⟨e,_⟩|⟨g,c',cur,e,_⟩
  ·injection e with e1 e2 e3;omega
  ·injection e with e1 e2 e3;exact ⟨g,e1⟩
 obtain ⟨n,hn⟩:∃ n,l.length=n+1:=⟨l.length-1,by omega⟩
 obtain ⟨y,hy⟩:∃ y,l[n]?=some y:=⟨l[n]'(by omega),by simp⟩
 have hgne:gp≠g:=by
  rintro rfl
  obtain ⟨cur,e⟩:=hh.row.blk
  rw[hb] at e;cases e;exact hty rfl
 rw[hn] at hl hh hc ⊢
 have p0:w.cell? ⟨gp,off,none⟩=some (.slice (some ⟨g,0,none⟩) (n+1) cc):=by rw[qAz hb];exact hc
 have c0:w.cell? ⟨g,0,none⟩=some (.int .i64 x):=hh.row.cell (by rw[nz_get,hx];rfl)
 have c1:w.cell? ⟨g,n,none⟩=some (.int .i64 y):=hh.row.cell (by rw[nz_get,hy];rfl)
 have hcc:n≤cc:=by
  rcases hh.row.2 with ⟨e,_⟩|⟨g0,c0,cur,e,_,_,e3,_⟩
  ·cases e
  ·injection e with e1 e2 e4;rw[nz_len] at e3;omega
 have hS:g∈gp::(Value.slice (some (⟨g,0,none⟩:Addr)) (n+1) cc).ownBlock.toList∨w.heap.size≤g:=.inl (by simp[Value.ownBlock])
 have hoff:off<arr.size:=(Array.getElem?_eq_some_iff.1 hc).1
 have HP0:Hid (PoI B gp g n cc (.cells (arr.setIfInBounds off (.slice (some ⟨g,0,none⟩) n cc)) ty) (gp::(Value.slice (some (⟨g,0,none⟩:Addr)) (n+1) cc).ownBlock.toList) w (fun z=>z≠x∧z∈l) ((w.setCell ⟨g,0,none⟩ (.int .i64 y)).setCell ⟨gp,off,none⟩ (.slice (some ⟨g,0,none⟩) n cc)) ((l.set 0 y).take n) 0):=by
  have hset:=OI.set hh.row 0 (y:Int) (by rw[nz_len];omega)
  rw[nz_set] at hset
  have hshr:=OI.shrink hset n (by rw[nz_len,List.length_set];omega)
  rw[nz_take] at hshr
  have hdn:=HP.dn_pop hh.hp y
  rw[hn,Nat.add_sub_cancel] at hdn
  have hget:∀ (k z:Nat),((l.set 0 y).take n)[k]?=some z→k<n∧((k=0∧z=y)∨(0<k∧l[k]?=some z)):=fun k z hk=>by
   rw[List.getElem?_take] at hk
   split at hk
   ·rename_i hkn
    rw[List.getElem?_set] at hk
    split at hk
    ·rename_i e;subst e;first|(first|(rw[if_pos (by omega)] at hk;cases hk;exact ⟨hkn,.inl ⟨rfl,rfl⟩⟩)|(cases hk;exact ⟨hkn,.inl ⟨rfl,rfl⟩⟩))|(cases hk;exact ⟨hkn,.inl ⟨rfl,rfl⟩⟩)
    ·rename_i e;exact ⟨hkn,.inr ⟨by omega,hk⟩⟩
   ·cases hk
  refine ⟨qLz (qFz hb (fun e=>hgne e.symm) 0 _) off _,ORow.set_own hshr (fun e=>hgne (by cases e;rfl)) off _,by simp;omega,hdn,?_,?_,?_⟩
  ·intro i j z hi hj
   obtain ⟨i1,i2⟩:=hget i z hi
   obtain ⟨j1,j2⟩:=hget j z hj
   rcases i2 with ⟨q1,q2⟩|⟨q1,q2⟩ <;> rcases j2 with ⟨r1,r2⟩|⟨r1,r2⟩
   ·omega
   ·subst q2;have:=hh.nd j n z r2 hy;omega
   ·subst r2;have:=hh.nd i n z q2 hy;omega
   ·exact hh.nd i j z q2 r2
  ·intro z
   constructor
   ·intro hz
    obtain ⟨k,hk⟩:=List.getElem?_of_mem hz
    obtain ⟨k1,k2⟩:=hget k z hk
    rcases k2 with ⟨q1,q2⟩|⟨q1,q2⟩
    ·subst q2
     exact ⟨fun e=>by subst e;have:=hh.nd 0 n z hx hy;omega,List.mem_of_getElem? hy⟩
    ·exact ⟨fun e=>by subst e;have:=hh.nd 0 k z hx q2;omega,List.mem_of_getElem? q2⟩
   ·rintro ⟨z1,z2⟩
    obtain ⟨k,hk⟩:=List.getElem?_of_mem z2
    have hkl:=(List.getElem?_eq_some_iff.1 hk).1
    by_cases e0:k=0
    ·subst e0;rw[hx] at hk;cases hk;exact absurd rfl z1
    ·by_cases en:k=n
     ·subst en
      rw[hy] at hk
      cases hk
      refine List.mem_of_getElem? (i:=0) ?_
      rw[List.getElem?_take,if_pos (by omega),List.getElem?_set,if_pos rfl,if_pos (by omega)]
     ·refine List.mem_of_getElem? (i:=k) ?_
      rw[List.getElem?_take,if_pos (by omega),List.getElem?_set,if_neg (by omega)]
      exact hk
  ·exact ((ButL.refl _ w).seto hS 0 _).set (by simp) off _
 have z0:=hh.row.froz
 have z1:=qGz hb
 go_enter Tryz.func84,Tryz.ntmps84
 go_wp2_with fail
 go_quiet (fail)
 go_wp2_with fail
 clear hb hc hx hpos hh hy
 go_region
 go_wp2_with fail
 have HP1:Hid (PoI B gp g n cc (.cells (arr.setIfInBounds off (.slice (some ⟨g,0,none⟩) n cc)) ty) (gp::(Value.slice (some (⟨g,0,none⟩:Addr)) (n+1) cc).ownBlock.toList) w (fun z=>z≠x∧z∈l) (((w.drewN (nq+1)).setCell ⟨g,0,none⟩ (.int .i64 y)).setCell ⟨gp,off,none⟩ (.slice (some ⟨g,0,none⟩) n cc)) ((l.set 0 y).take n) 0):=HP0.out.drewN (nq+1)
 clear HP0 p0 c0 c1 z0 z1
 go_loopw [5,6] (fun a5 a6 wr=>∃ (i b:Nat) (l1:List Nat),a5=.int .i64 i∧a6=.int .i64 b∧Hid (b=2*i+1)∧Hid (PoI B gp g n cc (.cells (arr.setIfInBounds off (.slice (some ⟨g,0,none⟩) n cc)) ty) (gp::(Value.slice (some (⟨g,0,none⟩:Addr)) (n+1) cc).ownBlock.toList) w (fun z=>z≠x∧z∈l) wr l1 i)) (fun a5 _ _=>n-(intOf a5).toNat)
 case atStart=>exact ⟨0,1,_,rfl,rfl,rfl,HP1⟩
 case round =>
  clear HP1
  obtain ⟨i,b,l1,rfl,rfl,HBi,HI⟩:=hrel
  have hbi:b=2*i+1:=HBi.out
  by_cases hbn:b<n
  ·have hin:i<n:=by omega
   obtain ⟨u,hu⟩:∃ u,l1[i]?=some u:=⟨l1[i]'(by have:=HI.out.len;omega),by simp⟩
   obtain ⟨v,hv⟩:∃ v,l1[b]?=some v:=⟨l1[b]'(by have:=HI.out.len;omega),by simp⟩
   have p3:wr.cell? ⟨gp,off,none⟩=some (.slice (some ⟨g,0,none⟩) n cc):=by rw[qAz HI.out.blk];simp[hoff]
   have z4:=HI.out.row.froz
   have c1:wr.cell? ⟨g,i,none⟩=some (.int .i64 u):=HI.out.row.cell (by rw[nz_get,hu];rfl)
   have c2:wr.cell? ⟨g,b,none⟩=some (.int .i64 v):=HI.out.row.cell (by rw[nz_get,hv];rfl)
   have HU:Hid (l1[i]?=some u):=hu
   have HV:Hid (l1[b]?=some v):=hv
   have b0:(0:Int)≤(i:Int):=by omega
   have b1:(i:Int)<(n:Int):=by omega
   have b2:(0:Int)≤(b:Int):=by omega
   have b3:(b:Int)<(n:Int):=by omega
   clear hu hv
   by_cases k1:b+1<n
   ·obtain ⟨v2,hv2⟩:∃ v,l1[b+1]?=some v:=⟨l1[b+1]'(by have:=HI.out.len;omega),by simp⟩
    have c3:wr.cell? ⟨g,b+1,none⟩=some (.int .i64 v2):=HI.out.row.cell (by rw[nz_get,hv2];rfl)
    have HV2:Hid (l1[b+1]?=some v2):=hv2
    have t0:(b:Int)+1<(n:Int):=by omega
    have t3:(0:Int)≤(b:Int)+1:=by omega
    have t4:((b:Int)+1).toNat=b+1:=by omega
    clear hv2
    by_cases k2:v2<v
    ·have t1:v2<v:=k2
     have HM:Hid (∀ (k z:Nat),(k=2*i+1∨k=2*i+2)→l1[k]?=some z→v2≤z):=by
      rintro k z (e|e) hz
      ·rw[e,← hbi,HV.out] at hz;cases hz;omega
      ·rw[show k=b+1 by omega,HV2.out] at hz;cases hz;exact Nat.le_refl _
     rcases Nat.lt_or_ge v2 u with k3|k3
     rotate_left
     ·clear hbi
      have t2:decide (u≤v2)=true:=by simp;omega
      go_wp2_with fail
      go_quiet (fail)
      revert nq
      intro nq0
      go_wp2_with fail
      go_quiet (fail)
      go_wp2_with fail
      go_ret
      exact ⟨rfl,_,l1,HI.out.blk,⟨HI.out.row,HI.out.dn.done (b:=(b+1)) (by have h9:b=2*i+1:=HBi.out;omega) HU.out HV2.out (by omega) HM.out,HI.out.nd⟩,HI.out.mem,by rw[HI.out.len],((HI.out.drewN nq0).drewN nq).but,rfl⟩
     ·clear hbi
      have t2:decide (u≤v2)=false:=by simp;omega
      go_wp2_with fail
      go_quiet (fail)
      revert nq
      intro nq0
      go_wp2_with fail
      go_quiet (fail)
      go_wp2_with fail
      have HE:Hid _:=(HI.out.drewN nq0).drewN nq
      obtain ⟨wq,hwq⟩:∃ wq,(wr.drewN nq0).drewN nq=wq:=⟨_,rfl⟩
      rw[hwq] at HE ⊢
      have d1:wq.cell? ⟨g,i,none⟩=some (.int .i64 u):=by rw[←hwq];exact c1
      have d2:wq.cell? ⟨g,(b+1),none⟩=some (.int .i64 v2):=by rw[←hwq];exact c3
      have d3:wq.cell? ⟨gp,off,none⟩=some (.slice (some ⟨g,0,none⟩) n cc):=by rw[←hwq];exact p3
      have z5:=HE.out.row.froz
      have d4:(wq.setCell ⟨g,i,none⟩ (.int .i64 v2)).cell? ⟨g,(b+1),none⟩=some (.int .i64 v2):=(OI.set HE.out.row i v2 (by rw[nz_len,HE.out.len];omega)).cell (by rw[List.getElem?_set_ne (by have h9:b=2*i+1:=HBi.out;omega),nz_get,HV2.out];rfl)
      have z6:∀ k,(wq.setCell ⟨g,i,none⟩ (.int .i64 v2)).frozen? ⟨g,k,none⟩=false:=(OI.set HE.out.row i v2 (by rw[nz_len,HE.out.len];omega)).froz
      have HN:Hid _:=HE.out.step (j:=(b+1)) (by have h9:b=2*i+1:=HBi.out;omega) HU.out HV2.out (by omega) HM.out hS hgne
      clear c1 c2 p3 z4 hwq c3
      go_region
      go_wp2_with fail
      go_roundw
      case rel=>exact ⟨(b+1),2*(b+1)+1,_,by go_num,by go_num,rfl,HN.out.drewN 1⟩
      case measure=>have h9:b=2*i+1:=HBi.out;simp[intOf];omega
    ·have t1:decide (v2<v)=false:=by simpa using k2
     have HM:Hid (∀ (k z:Nat),(k=2*i+1∨k=2*i+2)→l1[k]?=some z→v≤z):=by
      rintro k z (e|e) hz
      ·rw[e,← hbi,HV.out] at hz;cases hz;exact Nat.le_refl _
      ·rw[show k=b+1 by omega,HV2.out] at hz;cases hz;omega
     rcases Nat.lt_or_ge v u with k3|k3
     rotate_left
     ·clear hbi
      have t2:decide (u≤v)=true:=by simp;omega
      go_wp2_with fail
      go_quiet (fail)
      revert nq
      intro nq0
      go_wp2_with fail
      go_quiet (fail)
      go_wp2_with fail
      go_ret
      exact ⟨rfl,_,l1,HI.out.blk,⟨HI.out.row,HI.out.dn.done (b:=b) (by have h9:b=2*i+1:=HBi.out;omega) HU.out HV.out (by omega) HM.out,HI.out.nd⟩,HI.out.mem,by rw[HI.out.len],((HI.out.drewN nq0).drewN nq).but,rfl⟩
     ·clear hbi
      have t2:decide (u≤v)=false:=by simp;omega
      go_wp2_with fail
      go_quiet (fail)
      revert nq
      intro nq0
      go_wp2_with fail
      go_quiet (fail)
      go_wp2_with fail
      have HE:Hid _:=(HI.out.drewN nq0).drewN nq
      obtain ⟨wq,hwq⟩:∃ wq,(wr.drewN nq0).drewN nq=wq:=⟨_,rfl⟩
      rw[hwq] at HE ⊢
      have d1:wq.cell? ⟨g,i,none⟩=some (.int .i64 u):=by rw[←hwq];exact c1
      have d2:wq.cell? ⟨g,b,none⟩=some (.int .i64 v):=by rw[←hwq];exact c2
      have d3:wq.cell? ⟨gp,off,none⟩=some (.slice (some ⟨g,0,none⟩) n cc):=by rw[←hwq];exact p3
      have z5:=HE.out.row.froz
      have d4:(wq.setCell ⟨g,i,none⟩ (.int .i64 v)).cell? ⟨g,b,none⟩=some (.int .i64 v):=(OI.set HE.out.row i v (by rw[nz_len,HE.out.len];omega)).cell (by rw[List.getElem?_set_ne (by have h9:b=2*i+1:=HBi.out;omega),nz_get,HV.out];rfl)
      have z6:∀ k,(wq.setCell ⟨g,i,none⟩ (.int .i64 v)).frozen? ⟨g,k,none⟩=false:=(OI.set HE.out.row i v (by rw[nz_len,HE.out.len];omega)).froz
      have HN:Hid _:=HE.out.step (j:=b) (by have h9:b=2*i+1:=HBi.out;omega) HU.out HV.out (by omega) HM.out hS hgne
      clear c1 c2 p3 z4 hwq c3
      go_region
      go_wp2_with fail
      go_roundw
      case rel=>exact ⟨b,2*b+1,_,by go_num,by go_num,rfl,HN.out.drewN 1⟩
      case measure=>have h9:b=2*i+1:=HBi.out;simp[intOf];omega
   ·have t0:decide ((b:Int)+1<(n:Int))=false:=by simp;omega
    have HM:Hid (∀ (k z:Nat),(k=2*i+1∨k=2*i+2)→l1[k]?=some z→v≤z):=by
     rintro k z (e|e) hz
     ·rw[e,← hbi,HV.out] at hz;cases hz;exact Nat.le_refl _
     ·have:=(List.getElem?_eq_some_iff.1 hz).1;have:=HI.out.len;omega
    rcases Nat.lt_or_ge v u with k3|k3
    rotate_left
    ·clear hbi
     have t2:decide (u≤v)=true:=by simp;omega
     go_wp2_with fail
     go_quiet (fail)
     revert nq
     intro nq0
     go_wp2_with fail
     go_quiet (fail)
     go_wp2_with fail
     go_ret
     exact ⟨rfl,_,l1,HI.out.blk,⟨HI.out.row,HI.out.dn.done (b:=b) (by have h9:b=2*i+1:=HBi.out;omega) HU.out HV.out (by omega) HM.out,HI.out.nd⟩,HI.out.mem,by rw[HI.out.len],((HI.out.drewN nq0).drewN nq).but,rfl⟩
    ·clear hbi
     have t2:decide (u≤v)=false:=by simp;omega
     go_wp2_with fail
     go_quiet (fail)
     revert nq
     intro nq0
     go_wp2_with fail
     go_quiet (fail)
     go_wp2_with fail
     have HE:Hid _:=(HI.out.drewN nq0).drewN nq
     obtain ⟨wq,hwq⟩:∃ wq,(wr.drewN nq0).drewN nq=wq:=⟨_,rfl⟩
     rw[hwq] at HE ⊢
     have d1:wq.cell? ⟨g,i,none⟩=some (.int .i64 u):=by rw[←hwq];exact c1
     have d2:wq.cell? ⟨g,b,none⟩=some (.int .i64 v):=by rw[←hwq];exact c2
     have d3:wq.cell? ⟨gp,off,none⟩=some (.slice (some ⟨g,0,none⟩) n cc):=by rw[←hwq];exact p3
     have z5:=HE.out.row.froz
     have d4:(wq.setCell ⟨g,i,none⟩ (.int .i64 v)).cell? ⟨g,b,none⟩=some (.int .i64 v):=(OI.set HE.out.row i v (by rw[nz_len,HE.out.len];omega)).cell (by rw[List.getElem?_set_ne (by have h9:b=2*i+1:=HBi.out;omega),nz_get,HV.out];rfl)
     have z6:∀ k,(wq.setCell ⟨g,i,none⟩ (.int .i64 v)).frozen? ⟨g,k,none⟩=false:=(OI.set HE.out.row i v (by rw[nz_len,HE.out.len];omega)).froz
     have HN:Hid _:=HE.out.step (j:=b) (by have h9:b=2*i+1:=HBi.out;omega) HU.out HV.out (by omega) HM.out hS hgne
     clear c1 c2 p3 z4 hwq
     go_region
     go_wp2_with fail
     go_roundw
     case rel=>exact ⟨b,2*b+1,_,by go_num,by go_num,rfl,HN.out.drewN 1⟩
     case measure=>have h9:b=2*i+1:=HBi.out;simp[intOf];omega
  ·have t0:decide (b<n)=false:=by simpa using hbn
   go_wp2_with fail
   go_ret
   exact ⟨rfl,_,l1,HI.out.blk,⟨HI.out.row,HI.out.dn.leaf (by rw[HI.out.len];omega),HI.out.nd⟩,HI.out.mem,by rw[HI.out.len],HI.out.but,rfl⟩
attribute [local go_sem] run_store_float
theorem wi_any (x lo hi:Int) (w:World) :
  Calls Tryz.prog 24 #[.int .i64 x,.int .i64 lo,.int .i64 hi] w fun e w'=>e=.returned (.bool (inR x lo hi))∧w'=w:=by
 by_cases h1:lo≤x
 ·by_cases h2:x≤hi
  ·go_enter Tryz.func24,Tryz.ntmps24
   go_wp2
   go_ret
   exact ⟨by simp[inR,h1,h2],rfl⟩
  ·go_enter Tryz.func24,Tryz.ntmps24
   go_wp2
   go_ret
   exact ⟨by simp[inR,h1,h2],rfl⟩
 ·go_enter Tryz.func24,Tryz.ntmps24
  go_wp2
  go_ret
  exact ⟨by simp[inR];omega,rfl⟩
def EV:Option F3→Value
 | none=>.nilIface
 | some t=>.iface 101 (FV t.1 t.2.1 t.2.2)
theorem fat_any (c p i:Int) (w:World) :
  Calls Tryz.prog 75 #[.int .i64 c,.int .i64 p,.int .i64 i] w fun e w'=>e=.returned (EV (some (c,p,i)))∧w'=w:=by
 go_enter Tryz.func75,Tryz.ntmps75
 go_wp2
 go_ret
 exact ⟨rfl,rfl⟩
theorem goes_any (op:Int) (w:World) :
  Calls Tryz.prog 107 #[.int .i64 op] w fun e w'=>e=.returned (.bool (!endsB op))∧w'=w:=by
 cases h1:(op==19)
 ·cases h2:(op==29)
  ·cases h3:(op==30)
   all_goals
    have h1':(op != 19)=true:=by simp[bne,h1]
    have h2':(op != 29)=true:=by simp[bne,h2]
    have h3':(op != 30)=!(op==30):=rfl
    rw[h3] at h3'
    go_enter Tryz.func107,Tryz.ntmps107
    go_wp2
    go_ret
    exact ⟨by simp[endsB,h1,h2,h3,h3'],rfl⟩
  ·have h1':(op != 19)=true:=by simp[bne,h1]
   have h2':(op != 29)=false:=by simp[bne,h2]
   go_enter Tryz.func107,Tryz.ntmps107
   go_wp2
   go_ret
   exact ⟨by simp[endsB,h1,h2],rfl⟩
 ·have h1':(op != 19)=false:=by simp[bne,h1]
  go_enter Tryz.func107,Tryz.ntmps107
  go_wp2
  go_ret
  exact ⟨by simp[endsB,h1],rfl⟩
theorem params_any (f:FC) (w:World) (hr0:0≤f.d.regs) (hr1:f.d.regs≤250) :
  Calls Tryz.prog 103 #[PV f] w fun e w'=>e=.returned (.bool (inR f.d.params 0 (if f.d.rest then f.d.regs-1 else f.d.regs)))∧Below w.heap.size w w':=by
 cases hr:f.d.rest
 all_goals
  go_enter Tryz.func103,Tryz.ntmps103
  go_wp2_with (go_at_call 24;refine (wi_any _ _ _ _).mono ?_;rintro e w' ⟨rfl,rfl⟩)
  go_ret
  exact ⟨by simp,bw1 _ _⟩
theorem isnan_any (x:Nat) (w:World):Calls Tryz.prog 131 #[.float .f64 x] w fun e w'=>e=.returned (.bool (nanB x))∧w'=w:=by
 go_enter Tryz.func131,Tryz.ntmps131
 go_wp2
 go_ret
 exact ⟨rfl,rfl⟩
theorem run_bits (x:Nat) (w:World):(callFunc 146 #[.float .f64 x]).run Tryz.prog w=.ok (.value (.int .u64 x)) w:=by
 rw[run_callFunc_extern (e:=Extern.MathFloatBits.float64bits) Tryz.func146 (by kernel_rfl) (by kernel_rfl) (by kernel_rfl) (by kernel_rfl)]
 rfl
theorem signbit0 (w:World):Calls Tryz.prog 132 #[.float .f64 0] w fun e w'=>e=.returned (.bool false)∧w'=w:=by
 have hr:=run_bits 0
 go_enter Tryz.func132,Tryz.ntmps132
 go_wp2
 go_ret
 exact ⟨by first|rfl|decide,rfl⟩
theorem signbit1 (w:World):Calls Tryz.prog 132 #[.float .f64 9223372036854775808] w fun e w'=>e=.returned (.bool true)∧w'=w:=by
 have hr:=run_bits 9223372036854775808
 go_enter Tryz.func132,Tryz.ntmps132
 go_wp2
 go_ret
 exact ⟨ret_bo (by decide +kernel),rfl⟩
attribute [local go_sem] run_store_float
theorem iconst_any (v:VD) (w:World) (ok:v.ok) :
  Calls Tryz.prog 104 #[VVd v] w fun e w'=>e=.returned (.bool (constB v))∧Below w.heap.size w w':=by
 obtain ⟨k,n,f,s,r⟩:=v
 obtain ⟨okf,oks⟩:=ok
 show Calls Tryz.prog 104 #[VV k n f s r] w fun e w'=>e=.returned (.bool (constB ⟨k,n,f,s,r⟩))∧Below w.heap.size w w'
 simp only at okf oks
 by_cases h5:k=5∨k=6∨k=7
 ·rcases h5 with rfl|rfl|rfl
  all_goals
   go_enter Tryz.func104,Tryz.ntmps104
   go_wp2_with fail
   go_ret
   exact ⟨ret_bo (by simp[constB]),bw1 _ _⟩
 ·have h5a:¬ k=5:=fun h=>h5 (.inl h)
  have h5b:¬ k=6:=fun h=>h5 (.inr (.inl h))
  have h5c:¬ k=7:=fun h=>h5 (.inr (.inr h))
  clear h5
  have b5:(k==5)=false:=by simpa using h5a
  have b6:(k==6)=false:=by simpa using h5b
  have b7:(k==7)=false:=by simpa using h5c
  cases hv:vok k n f s r
  ·by_cases h3:k=3
   ·subst h3
    go_enter Tryz.func104,Tryz.ntmps104
    go_wp2_with (go_at_call 130;refine (iok_any _ _ _ _ _ _).mono ?_;rw[hv];rintro e w' ⟨rfl,hb'⟩;obtain ⟨hb,c0,c1,c2,c3,c4⟩:=box5 hb';clear hb')
    go_ret
    exact ⟨ret_bo (by simp[constB,hv]),hb⟩
   ·have b3:(k==3)=false:=by simpa using h3
    go_enter Tryz.func104,Tryz.ntmps104
    go_wp2_with (go_at_call 130;refine (iok_any _ _ _ _ _ _).mono ?_;rw[hv];rintro e w' ⟨rfl,hb'⟩;obtain ⟨hb,c0,c1,c2,c3,c4⟩:=box5 hb';clear hb')
    go_ret
    exact ⟨ret_bo (by simp[constB,hv]),hb⟩
  ·by_cases h3:k=3
   ·subst h3
    go_enter Tryz.func104,Tryz.ntmps104
    go_wp2_with (first|(go_at_call 130;refine (iok_any _ _ _ _ _ _).mono ?_;rw[hv];rintro e w' ⟨rfl,hb'⟩;obtain ⟨hb,c0,c1,c2,c3,c4⟩:=box5 hb';clear hb')|(go_at_call 131;refine (isnan_any _ _).mono ?_;rintro e w' ⟨rfl,rfl⟩))
    go_ret
    exact ⟨ret_bo (by simp[constB,hv]),hb⟩
   ·have b3:(k==3)=false:=by simpa using h3
    rcases fz_two f okf (vok_fz (v:=⟨k,n,f,s,r⟩) hv h3) with rfl|rfl
    ·go_enter Tryz.func104,Tryz.ntmps104
     go_wp2_with (first|(go_at_call 130;refine (iok_any _ _ _ _ _ _).mono ?_;rw[hv];rintro e w' ⟨rfl,hb'⟩;obtain ⟨hb,c0,c1,c2,c3,c4⟩:=box5 hb';clear hb')|(go_at_call 132;refine (signbit0 _).mono ?_;rintro e w' ⟨rfl,rfl⟩))
     go_ret
     exact ⟨ret_bo (by simp[constB,hv,h3,h5a,h5b,h5c]),hb⟩
    ·go_enter Tryz.func104,Tryz.ntmps104
     go_wp2_with (first|(go_at_call 130;refine (iok_any _ _ _ _ _ _).mono ?_;rw[hv];rintro e w' ⟨rfl,hb'⟩;obtain ⟨hb,c0,c1,c2,c3,c4⟩:=box5 hb';clear hb')|(go_at_call 132;refine (signbit1 _).mono ?_;rintro e w' ⟨rfl,rfl⟩))
     go_ret
     exact ⟨ret_bo (by simp[constB,hv,h3,h5a,h5b,h5c]),hb⟩
def nam1 (f:FD) (n:ND):Bool:=inR n.s.size 1 40&&inR n.reg 0 (f.regs-1)&&inR n.fr 0 n.to&&decide (n.to≤(f.ins.length:Int))
theorem named_nam {f:FD}{i:Nat}{n:ND}:namedB f i n=(decide ((i:Int)<500)&&nam1 f n):=by
 unfold namedB nam1 inR
 simp only[Bool.and_assoc]
theorem inamed_any (f:FC) (n:ND) (w:World) (hs:n.s.size≤maxLen) (ok:f.d.ok) (hr0:0≤f.d.regs) (hr1:f.d.regs≤250) :
  Calls Tryz.prog 105 #[NV n,PV f] w fun e w'=>e=.returned (.bool (nam1 f.d n))∧Below w.heap.size w w':=by
 unfold maxLen at hs
 have li:=ok.li
 clear ok
 cases h1:inR n.s.size 1 40
 ·go_enter Tryz.func105,Tryz.ntmps105
  go_wp2_with (go_at_call 24;refine (wi_any _ _ _ _).mono ?_;rw[h1];rintro e w' ⟨rfl,rfl⟩)
  go_ret
  exact ⟨ret_bo (by simp[nam1,h1]),bw2 _ _ _⟩
 ·cases h2:inR n.reg 0 (f.d.regs-1)
  ·go_enter Tryz.func105,Tryz.ntmps105
   go_wp2_with (go_at_call 24;refine (wi_any _ _ _ _).mono ?_;(first|rw[h1]|rw[h2]);rintro e w' ⟨rfl,rfl⟩)
   go_ret
   exact ⟨ret_bo (by simp[nam1,h2]),bw2 _ _ _⟩
  ·cases h3:inR n.fr 0 n.to
   ·go_enter Tryz.func105,Tryz.ntmps105
    go_wp2_with (go_at_call 24;refine (wi_any _ _ _ _).mono ?_;(first|rw[h1]|rw[h2]|rw[h3]);rintro e w' ⟨rfl,rfl⟩)
    go_ret
    exact ⟨ret_bo (by simp[nam1,h3]),bw2 _ _ _⟩
   ·go_enter Tryz.func105,Tryz.ntmps105
    go_wp2_with (go_at_call 24;refine (wi_any _ _ _ _).mono ?_;(first|rw[h1]|rw[h2]|rw[h3]);rintro e w' ⟨rfl,rfl⟩)
    go_ret
    exact ⟨ret_bo (by simp[nam1,h1,h2,h3]),bw2 _ _ _⟩
theorem iups_any (a:Option Addr) (len cap:Nat) (us:List UD) (f:FC) (w:World) (hl:us.length=len) (hs:SlA w 2 UD.cells a us) (hlen:len≤1048576) (ok:f.d.ok) (hr0:0≤f.d.regs) (hr1:f.d.regs≤250) :
  Calls Tryz.prog 108 #[.slice a len cap,PV f] w fun e w'=>e=.returned (.bool (upsB f.d us))∧Below w.heap.size w w':=by
 have HS:Hid (SlA w 2 UD.cells a us):=hs
 have HL:Hid (us.length=len):=hl
 have lf:=ok.lu
 clear hs hl ok
 go_enter Tryz.func108,Tryz.ntmps108
 go_wp2_with fail
 go_loopw [10] (fun i wr=>∃ m:Nat,m≤len∧i=.int .i64 m∧Below w.heap.size w wr∧Hid (wr.heap[w.heap.size]?=some (PO f))∧Hid (∀ j u,j<m→us[j]?=some u→upB f.d u=true)) (fun i _=>len-(intOf i).toNat)
 case atStart=>exact ⟨0,by omega,rfl,bw1 _ _,qKz _ _,fun j u hj=>absurd hj (Nat.not_lt_zero _)⟩
 case round =>
  obtain ⟨m,hm,rfl,hB,B0,HF⟩:=hrel
  by_cases k1:m<len
  ·obtain ⟨u,hu⟩:∃ u,us[m]?=some u:=⟨us[m]'(by rw[HL.out];exact k1),by simp⟩
   obtain ⟨bu,ou,rfl,hbu,hcu⟩:=HS.out m u hu
   have d0:wr.cell? ⟨bu,ou+m*2,none⟩=some (.bool u.l):=cell_later hB (hcu 0 _ rfl)
   have d1:wr.cell? ⟨bu,ou+m*2+1,none⟩=some (.int .i64 u.i):=cell_later hB (hcu 1 _ rfl)
   have HN:Hid (upB f.d u=false→upsB f.d us=false):=upsB_not hu
   have HF1:Hid (upB f.d u=true→∀ j v,j<m+1→us[j]?=some v→upB f.d v=true):=by
    intro ht j v hj hv
    by_cases hjm:j=m
    ·subst hjm;rw[hu] at hv;cases hv;exact ht
    ·exact HF.out j v (by omega) hv
   clear HF hu hcu hbu
   obtain ⟨ul,ui⟩:=u
   simp only at d0 d1 HN HF1
   have hy:=bw1 wr (.cells #[.bool ul,.int .i64 ui] 124)
   have p4:(wr.alloc (.cells #[.bool ul,.int .i64 ui] 124)).cell? ⟨w.heap.size,4,none⟩=some (.int .i64 f.d.regs):=by rw[qAz (qBz hy B0.out)];rfl
   have p5:(wr.alloc (.cells #[.bool ul,.int .i64 ui] 124)).cell? ⟨w.heap.size,5,none⟩=some (.slice f.au f.d.ups.length f.cu):=by rw[qAz (qBz hy B0.out)];rfl
   replace hB:=hB.trans (hy.mono hB.size)
   replace B0:Hid _:=qBz hy B0.out
   clear hy
   cases ul
   ·cases hin:inR ui 0 ((f.d.ups.length:Int)-1)
    ·have HR:Hid (upsB f.d us=false):=HN.out (by simp[upB,hin])
     go_wp2_with (go_at_call 24;refine (wi_any _ _ _ _).mono ?_;rw[hin];rintro e w' ⟨rfl,rfl⟩)
     go_ret
     exact ⟨ret_bo HR.out.symm,hB⟩
    ·have HF2:Hid _:=HF1.out (by simp[upB,hin])
     go_wp2_with (go_at_call 24;refine (wi_any _ _ _ _).mono ?_;rw[hin];rintro e w' ⟨rfl,rfl⟩)
     go_roundw
     case rel=>exact ⟨m+1,by omega,by go_num,hB,B0,HF2⟩
     case measure=>simp[intOf];omega
   ·cases hin:inR ui 0 (f.d.regs-1)
    ·have HR:Hid (upsB f.d us=false):=HN.out (by simp[upB,hin])
     go_wp2_with (go_at_call 24;refine (wi_any _ _ _ _).mono ?_;rw[hin];rintro e w' ⟨rfl,rfl⟩)
     go_ret
     exact ⟨ret_bo HR.out.symm,hB⟩
    ·have HF2:Hid _:=HF1.out (by simp[upB,hin])
     go_wp2_with (go_at_call 24;refine (wi_any _ _ _ _).mono ?_;rw[hin];rintro e w' ⟨rfl,rfl⟩)
     go_roundw
     case rel=>exact ⟨m+1,by omega,by go_num,hB,B0,HF2⟩
     case measure=>simp[intOf];omega
  ·have HR:Hid (upsB f.d us=true):=upsB_all fun j u hu=>HF.out j u (by have:=(List.getElem?_eq_some_iff.1 hu).1;have:=HL.out;omega) hu
   clear HF
   go_wp2_with fail
   go_ret
   exact ⟨ret_bo HR.out.symm,hB⟩
theorem isize_any (a:Option Addr) (len cap:Nat) (xs:List FC) (w:World) (H0:CodeAt w a xs) (hl:xs.length=len) (v:Bool) (hv:v=true ↔ ¬ badSize (xs.map FC.d)) :
  Calls Tryz.prog 74 #[.agg #[.slice a len cap]] w fun e w'=>e=.returned (.bool v)∧Below w.heap.size w w':=by
 have hlen:len≤1048576:=by rw[←hl];exact H0.len
 have H:Hid (CodeAt w a xs):=H0
 have HL:Hid (xs.length=len):=hl
 have HV:Hid (v=true ↔ ¬ (len=0∨200<len∨6000<(xs.map fun x=>x.d.ins.length).sum)):=by show _ ↔ _;rw[hv];unfold badSize;rw[List.length_map,hl,total_eq]
 clear H0 hl hv
 by_cases hz:len=0
 ·have hv:v=false:=by have h:=HV.out;simp[hz] at h;exact h
  have hz':((len:Int)==0)=true:=by simp[hz]
  go_enter Tryz.func74,Tryz.ntmps74
  go_wp2_with fail
  go_ret
  exact ⟨ret_bo hv.symm,bw1 _ _⟩
 have hz':((len:Int)==0)=false:=by simpa using hz
 by_cases hz2:200<len
 ·have hv:v=false:=by have h:=HV.out;simp[hz2] at h;exact h
  go_enter Tryz.func74,Tryz.ntmps74
  go_wp2_with fail
  go_ret
  exact ⟨ret_bo hv.symm,bw1 _ _⟩
 go_enter Tryz.func74,Tryz.ntmps74
 go_wp2_with fail
 go_loopw [3,19] (fun t i wr=>∃ (m s:Nat),m≤len∧i=.int .i64 m∧t=.int .i64 s∧s≤1048576∧Hid (s=((xs.take m).map fun x=>x.d.ins.length).sum)∧Below w.heap.size w wr) (fun _ i _=>len-(intOf i).toNat)
 case atStart=>exact ⟨0,0,Nat.zero_le _,rfl,rfl,by omega,rfl,bw1 _ _⟩
 case round =>
  obtain ⟨m,s,hm,rfl,rfl,hs,HS,hB⟩:=hrel
  by_cases k1:m<len
  ·obtain ⟨f,hf⟩:∃ f,xs[m]?=some f:=⟨xs[m]'(by rw[HL.out];exact k1),by simp⟩
   obtain ⟨b,off,rfl,hb,hc⟩:=H.out.nine hf
   obtain ⟨c0,c1,c2,c3,c4,c5,c6,c7,c8⟩:=hc.later hB
   have hst:s+f.d.ins.length≤1048576:=by
    have h1:=sum_take hf
    have h2:=sum_le (xs:=xs) (m+1)
    have h3:=H.out.all
    have h4:=HS.out
    omega
   have HS1:Hid (s+f.d.ins.length=((xs.take (m+1)).map fun x=>x.d.ins.length).sum):=by show s+f.d.ins.length=_;rw[sum_take hf,← HS.out]
   clear hf hc hb HS
   go_wp2_with fail
   go_roundw
   case rel=>exact ⟨m+1,s+f.d.ins.length,by omega,by go_num,by go_num,by omega,HS1,qJz hB _⟩
   case measure=>simp[intOf];omega
  ·have HR:Hid (decide ((s:Int)≤6000)=v):=by
    have h1:=HS.out
    rw[List.take_of_length_le (by rw[HL.out];omega)] at h1
    have h2:=HV.out
    rw[←h1] at h2
    show decide ((s:Int)≤6000)=v
    cases v
    ·simp at h2 ⊢;omega
    ·simp at h2 ⊢;omega
   clear HS
   go_wp2_with fail
   go_ret
   exact ⟨ret_bo HR.out,hB⟩
attribute [local go_sem] run_store_float
def layT:List (List Int) :=
 [[0,0,0,0],[1,0,0,0],[2,0,0,0],[0,0,0,0],[20,3,0,0],[20,12,0,0],[21,12,0,0],[20,15,0,0],[15,12,0,0],[20,4,0,0],[4,12,0,0],[20,5,0,0],
  [20,0,0,0],[14,12,12,0],[14,12,13,0],[20,12,12,0],[12,12,12,0],[20,7,12,0],[20,8,12,12],[6,0,0,0],[12,6,0,0],[12,6,0,0],
  [22,0,0,0],[16,12,0,0],[16,13,0,0],[20,13,0,0],[20,16,9,0],[22,16,0,0],[22,12,13,0],[13,0,0,0],[12,0,0,0],[6,11,0,0],
  [0,0,0,0],[10,0,0,0],[10,0,0,0],[12,13,0,0],[0,0,0,0],[17,0,0,0],[17,6,0,0],[17,6,0,0],[18,0,0,0],[19,6,22,0],[23,0,0,0]]
def li (i j:Nat):Int:=(layT.getD i []).getD j 0
def LayAt (w:World):Prop:=∀ i j,i<43→j<4→w.cell? ⟨2,i*4+j,none⟩=some (.int .i64 (li i j))
theorem LayAt.later {w wx:World} (hb:Below w.heap.size w wx) (h:LayAt w):LayAt wx:=fun i j hi hj=>cell_later hb (h i j hi hj)
def convT:List Int:=[0,11,12,7,8,9,10,15,16,17,13,14,2,3,4,5,6,18,19,20,1,1,1,21]
def conv (r:Nat):Int:=convT.getD r 0
theorem lay_fits:∀ op:Fin 43,1≤op.val→∀ j:Fin 4,0≤li op.val j.val∧li op.val j.val<24∧conv (li op.val j.val).toNat=rl (op.val:Int) j.val:=by decide +kernel
abbrev F8 (k:Nat) (n:ID):Value:=.agg #[.int .i64 (li k 0),.int .i64 n.a,.int .i64 (li k 1),.int .i64 n.b,.int .i64 (li k 2),.int .i64 n.c,.int .i64 (li k 3),.int .i64 n.d]
theorem fieldsof_any (n:ID) (k:Nat) (w:World) (hk:n.op=k) (h1:k<43) (hl:LayAt w) :
  Calls Tryz.prog 133 #[IV n] w fun e w'=>e=.returned (F8 k n)∧Below w.heap.size w w':=by
 have hx:=bw2 w (.cells #[.int .i64 n.op,.int .i64 n.a,.int .i64 n.b,.int .i64 n.c,.int .i64 n.d] 77) (.cells #[.int .i64 0,.int .i64 0,.int .i64 0,.int .i64 0,.int .i64 0,.int .i64 0,.int .i64 0,.int .i64 0] 215)
 have l0:=cell_later hx (show w.cell? ⟨2,k*4,none⟩=some (.int .i64 (li k 0)) from hl k 0 h1 (by omega))
 have l1:=cell_later hx (hl k 1 h1 (by omega))
 have l2:=cell_later hx (hl k 2 h1 (by omega))
 have l3:=cell_later hx (hl k 3 h1 (by omega))
 clear hx hl
 obtain ⟨op,na,nb,nc,nd⟩:=n
 simp only at hk l0 l1 l2 l3
 subst hk
 go_enter Tryz.func133,Tryz.ntmps133
 go_wp2_with fail
 exact bodyPost_ret (v:=F8 k ⟨(k:Int),na,nb,nc,nd⟩) (by simp[results,Tryz.results133,go_sem]) rfl ⟨rfl,bw3 _ _ _ _⟩
theorem r_cases {r:Nat} (h:r<24):r=0∨r=1∨r=2∨r=3∨r=4∨r=5∨r=6∨r=7∨r=8∨r=9∨r=10∨r=11∨r=12∨r=13∨r=14∨r=15∨r=16∨r=17∨r=18∨r=19∨r=20∨r=21∨r=22∨r=23:=by omega
theorem bounds_any (r:Nat) (b off len cap p:Nat) (f:FC) (w:World) (hr:r<24) (hpl:p<len) (hlen:len≤1048576) (hc:Cell9 w b (off+p*9) f) (hr0:0≤f.d.regs) (hr1:f.d.regs≤250) (ok:f.d.ok) :
  Calls Tryz.prog 134 #[.int .i64 r,.agg #[.slice (some ⟨b,off,none⟩) len cap],.int .i64 p] w fun e w'=>e=.returned (.tuple #[.int .i64 (lohi len f.d (conv r)).1,.int .i64 (lohi len f.d (conv r)).2])∧Below w.heap.size w w':=by
 obtain ⟨c0,c1,c2,c3,c4,c5,c6,c7,c8⟩:=hc.later (bw1 w (CO (.slice (some ⟨b,off,none⟩) len cap)))
 obtain ⟨on,lu,lc,lli,ln,_,_⟩:=ok
 clear hc on ln
 have hcs:=r_cases hr
 clear hr
 rcases hcs with rfl|rfl|rfl|rfl|rfl|rfl|rfl|rfl|rfl|rfl|rfl|rfl|rfl|rfl|rfl|rfl|rfl|rfl|rfl|rfl|rfl|rfl|rfl|rfl
 all_goals
  go_enter Tryz.func134,Tryz.ntmps134
  go_wp2_with fail
  try (go_quiet (fail);go_wp2_with fail)
  refine bodyPost_ret ?_ rfl ⟨rfl,?_⟩
  ·simp[results,Tryz.results134,go_sem,lohi,conv,convT]
  ·first|exact bw2 _ _ _|exact (bw2 _ _ _).trans (below_dr _ _ _)
end Go.Proofs.YtfejmalmnjmanaaGreatDoor
