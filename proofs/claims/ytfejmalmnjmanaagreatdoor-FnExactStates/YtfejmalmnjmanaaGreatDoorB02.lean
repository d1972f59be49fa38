import Derived.Test.YtfejmalmnjmanaaGreatDoorB01
import Derived.Laws.IdiomStrings
import Derived.Laws.Concat
set_option linter.unusedVariables false
set_option linter.unusedSimpArgs false
set_option maxRecDepth 20000
set_option maxHeartbeats 8000000
namespace Go.Proofs.YtfejmalmnjmanaaGreatDoor
open Go.RowKit
structure MK where
 b:Bool
 tv:Value
 gv:Value
 ts:List Int
 gs:List GD
def MK.cells (z:MK):List Value:=[.bool z.b,z.tv,z.gv]
theorem MK.len (z:MK):z.cells.length=3:=rfl
def MK.ok (w:World) (B:Nat) (z:MK):Prop:=ORow w B 3 1 intC z.tv z.ts∧ORow w B 113 3 GD.cells z.gv z.gs
structure MkA (w:World) (B gS:Nat) (zs:List MK):Prop where
 blk:w.heap[gS]?=some (.cells (zs.flatMap MK.cells).toArray 58)
 ok:∀ z∈zs,z.ok w B
 ap:∀ (i j:Nat) (y z:MK),i≠j→zs[i]?=some y→zs[j]?=some z→Apart y.tv z.tv∧Apart y.gv z.gv
def SR.mk' (z:SR):MK:=⟨z.o.isSome,z.tv,z.gv,tsO z.o,gsO z.o⟩
theorem StA.mkA {w:World}{B gS:Nat}{zs:List SR} (h:StA w B gS zs):MkA w B gS (zs.map SR.mk'):=by
 refine ⟨?_,fun y hy=>?_,fun i j y y' hij h1 h2=>?_⟩
 ·rw[h.blk,List.flatMap_map];rfl
 ·obtain ⟨z,hz,rfl⟩:=List.mem_map.1 hy
  have:=h.ok z hz
  unfold SR.ok at this
  unfold MK.ok SR.mk'
  split at this
  ·rename_i e
   simp only[e,tsO,gsO]
   rw[this.1,this.2]
   exact ⟨ORow.nil _ _ _ _ _,ORow.nil _ _ _ _ _⟩
  ·rename_i x e
   simp only[e,tsO,gsO]
   exact this
 ·rw[List.getElem?_map] at h1 h2
  obtain ⟨z,hz,rfl⟩:=Option.map_eq_some_iff.1 h1
  obtain ⟨z',hz',rfl⟩:=Option.map_eq_some_iff.1 h2
  exact h.ap i j z z' hij hz hz'
theorem ORow.own_ty {α:Type}{w:World}{B:Nat}{et:TypeId}{k:Nat}{cells:α→List Value}{sv:Value}{xs:List α} (h:ORow w B et k cells sv xs) {g:Nat} (hg:sv.ownBlock=some g):∃ arr,w.heap[g]?=some (.cells arr et):=by
 rcases h.2 with ⟨e,_⟩|⟨g',cap',cur,e,e2,e3,e4⟩
 ·subst e;cases hg
 ·subst e;cases hg;exact ⟨cur,e3⟩
theorem ty_ne {w:World}{g g':Nat}{t t':TypeId}{a a':Array Value} (h:w.heap[g]?=some (.cells a t)) (h':w.heap[g']?=some (.cells a' t')) (hne:t≠t'):g≠g':=fun e=>by
 subst e;rw[h] at h';cases h';exact hne rfl
theorem MkA.cell {w:World}{B gS i j:Nat}{zs:List MK}{z:MK}{v:Value} (h:MkA w B gS zs) (hz:zs[i]?=some z) (hv:z.cells[j]?=some v):w.cell? ⟨gS,i*3+j,none⟩=some v:=by
 rw[qAz h.blk]
 have:=flat_at MK.cells 3 zs i j z v (fun y _=>MK.len y) hz hv
 simpa using this
theorem MkA.later {w w':World}{B gS:Nat}{zs:List MK} (h:MkA w B gS zs) (hb:Below w.heap.size w w'):MkA w' B gS zs :=
 ⟨(hb.block gS (blk_lt h.blk)).trans h.blk,fun z hz=>⟨(h.ok z hz).1.later hb,(h.ok z hz).2.later hb⟩,h.ap⟩
theorem flat_setb (l:List MK):∀ (i:Nat) (z:MK) (b:Bool),l[i]?=some z→(l.flatMap MK.cells).set (i*3) (.bool b)=(l.set i { z with b:=b }).flatMap MK.cells:=by
 induction l with
 | nil=>intro i z b h;simp at h
 | cons y l ih =>
  intro i z b h
  cases i with
  | zero=>simp at h;subst h;simp[MK.cells]
  | succ i =>
   have:=ih i z b (by simpa using h)
   rw[show (i+1)*3=i*3+3 by omega]
   simp only[List.flatMap_cons,List.set_cons_succ]
   rw[←this,List.set_append_right _ _ (by simp[MK.cells])]
   simp only[MK.len]
   rw[show i*3+3-3=i*3 by omega]
theorem flat_sets (l:List MK) (i:Nat) (z z':MK) (h:l[i]?=some z) (hc:z'.cells=z.cells):(l.set i z').flatMap MK.cells=l.flatMap MK.cells:=by
 induction l generalizing i with
 | nil=>simp
 | cons y l ih =>
  cases i with
  | zero=>simp at h;subst h;simp[hc]
  | succ i=>simp[ih i (by simpa using h)]
theorem ap_set {zs:List MK}{i:Nat}{z z':MK} (h:∀ (i j:Nat) (y z:MK),i≠j→zs[i]?=some y→zs[j]?=some z→Apart y.tv z.tv∧Apart y.gv z.gv) (hz:zs[i]?=some z) (h1:z'.tv=z.tv) (h2:z'.gv=z.gv):∀ (a b:Nat) (y y':MK),a≠b→(zs.set i z')[a]?=some y→(zs.set i z')[b]?=some y'→Apart y.tv y'.tv∧Apart y.gv y'.gv:=by
 have key:∀ (a:Nat) (y:MK),(zs.set i z')[a]?=some y→∃ y0,zs[a]?=some y0∧y.tv=y0.tv∧y.gv=y0.gv:=by
  intro a y hy
  rw[List.getElem?_set] at hy
  split at hy
  ·rename_i e
   subst e
   split at hy
   ·cases hy;exact ⟨z,hz,h1,h2⟩
   ·cases hy
  ·exact ⟨y,hy,rfl,rfl⟩
 intro a b y y' hab e1 e2
 obtain ⟨y0,g1,g2,g3⟩:=key a y e1
 obtain ⟨y1,g4,g5,g6⟩:=key b y' e2
 rw[g2,g3,g5,g6]
 exact h a b y0 y1 hab g1 g4
theorem MkA.flag {w:World}{B gS i:Nat}{zs:List MK}{z:MK} (h:MkA w B gS zs) (hz:zs[i]?=some z) (b:Bool):MkA (w.setCell ⟨gS,i*3,none⟩ (.bool b)) B gS (zs.set i { z with b:=b }):=by
 have hne:∀ (k:Nat) (ar:Array Value) (t:TypeId),t≠58→w.heap[k]?=some (.cells ar t)→(w.setCell ⟨gS,i*3,none⟩ (.bool b)).heap[k]?=w.heap[k]?:=fun k ar t ht hk=>Below.heap_setCell _ _ _ _ (ty_ne hk h.blk ht)
 have hok:∀ y:MK,y.ok w B→y.ok (w.setCell ⟨gS,i*3,none⟩ (.bool b)) B:=fun y hy=>⟨hy.1.keep fun j arr _ hj=>hne j arr _ (by decide) hj,hy.2.keep fun j arr _ hj=>hne j arr _ (by decide) hj⟩
 refine ⟨?_,fun y hy=>?_,ap_set h.ap hz rfl rfl⟩
 ·rw[qLz h.blk (i*3) (.bool b)]
  congr 2
  apply Array.toList_inj.1
  simp only[Array.toList_setIfInBounds]
  exact flat_setb zs i z b hz
 ·rcases List.mem_or_eq_of_mem_set hy with hy|rfl
  ·exact hok y (h.ok y hy)
  ·exact hok z (h.ok z (List.mem_of_getElem? hz))
theorem MkA.upT {w w':World}{B gS i:Nat}{zs:List MK}{z:MK}{ts:List Int} (h:MkA w B gS zs) (hz:zs[i]?=some z) (ho:ORow w' B 3 1 intC z.tv ts) (hb:ButL z.tv.ownBlock.toList w w'):MkA w' B gS (zs.set i { z with ts:=ts }):=by
 have hzo:=h.ok z (List.mem_of_getElem? hz)
 have hin:∀ g,g∈z.tv.ownBlock.toList→∃ arr,w.heap[g]?=some (.cells arr 3):=fun g hg=>hzo.1.own_ty (by simpa using hg)
 refine ⟨?_,fun y hy=>?_,ap_set h.ap hz rfl rfl⟩
 ·rw[flat_sets zs i z { z with ts:=ts } hz rfl,hb.block gS (blk_lt h.blk) (fun hg=>by obtain ⟨arr,e⟩:=hin gS hg;exact ty_ne e h.blk (by decide) rfl)]
  exact h.blk
 ·have hG:∀ y:MK,y.ok w B→ORow w' B 113 3 GD.cells y.gv y.gs:=fun y hy=>ORow.butn hy.2 hb fun g hg hm=>by
   obtain ⟨arr,e⟩:=hin g hm
   obtain ⟨arr',e'⟩:=hy.2.own_ty hg
   exact ty_ne e e' (by decide) rfl
  obtain ⟨j,hj⟩:=List.getElem?_of_mem hy
  rw[List.getElem?_set] at hj
  split at hj
  ·split at hj
   ·cases hj;exact ⟨ho,hG z hzo⟩
   ·cases hj
  ·rename_i hij
   have hyo:=h.ok y (List.mem_of_getElem? hj)
   exact ⟨ORow.butn hyo.1 hb fun g hg hm=>(h.ap j i y z (fun e=>hij e.symm) hj hz).1 g hg (by simpa using hm),hG y hyo⟩
theorem MkA.upG {w w':World}{B gS i:Nat}{zs:List MK}{z:MK}{gs:List GD} (h:MkA w B gS zs) (hz:zs[i]?=some z) (ho:ORow w' B 113 3 GD.cells z.gv gs) (hb:ButL z.gv.ownBlock.toList w w'):MkA w' B gS (zs.set i { z with gs:=gs }):=by
 have hzo:=h.ok z (List.mem_of_getElem? hz)
 have hin:∀ g,g∈z.gv.ownBlock.toList→∃ arr,w.heap[g]?=some (.cells arr 113):=fun g hg=>hzo.2.own_ty (by simpa using hg)
 refine ⟨?_,fun y hy=>?_,ap_set h.ap hz rfl rfl⟩
 ·rw[flat_sets zs i z { z with gs:=gs } hz rfl,hb.block gS (blk_lt h.blk) (fun hg=>by obtain ⟨arr,e⟩:=hin gS hg;exact ty_ne e h.blk (by decide) rfl)]
  exact h.blk
 ·have hT:∀ y:MK,y.ok w B→ORow w' B 3 1 intC y.tv y.ts:=fun y hy=>ORow.butn hy.1 hb fun g hg hm=>by
   obtain ⟨arr,e⟩:=hin g hm
   obtain ⟨arr',e'⟩:=hy.1.own_ty hg
   exact ty_ne e e' (by decide) rfl
  obtain ⟨j,hj⟩:=List.getElem?_of_mem hy
  rw[List.getElem?_set] at hj
  split at hj
  ·split at hj
   ·cases hj;exact ⟨hT z hzo,ho⟩
   ·cases hj
  ·rename_i hij
   have hyo:=h.ok y (List.mem_of_getElem? hj)
   exact ⟨hT y hyo,ORow.butn hyo.2 hb fun g hg hm=>(h.ap j i y z (fun e=>hij e.symm) hj hz).2 g hg (by simpa using hm)⟩
def kn (k:Nat):List MK→Nat→Nat
 | _,0=>k
 | [],_+1=>k
 | z::zs,m+1=>kn (k+1+z.ts.length+3*z.gs.length) zs m
theorem kn_succ (zs:List MK):∀ (k m:Nat) (z:MK),zs[m]?=some z→kn k zs (m+1)=kn k zs m+1+z.ts.length+3*z.gs.length:=by
 induction zs with
 | nil=>intro k m z h;simp at h
 | cons y zs ih =>
  intro k m z h
  cases m with
  | zero=>simp at h;subst h;cases zs <;> rfl
  | succ m=>exact ih _ m z (by simpa using h)
def mkS (k:Nat) (z:MK):MK:=⟨decide ((k:Int) % 3=0),z.tv,z.gv,mkI (k+1) z.ts.length,mkG (k+1+z.ts.length) z.gs.length⟩
theorem kn_le (zs:List MK) (hb:∀ z∈zs,z.ts.length≤1048576∧z.gs.length≤1048576):∀ (k m:Nat),kn k zs m≤k+m*4194305:=by
 induction zs with
 | nil=>intro k m;cases m <;> simp[kn]
 | cons z zs ih =>
  intro k m
  cases m with
  | zero=>simp[kn]
  | succ m =>
   have h1:=ih (fun y hy=>hb y (List.mem_cons_of_mem _ hy)) (k+1+z.ts.length+3*z.gs.length) m
   have h2:=hb z (List.mem_cons_self ..)
   show kn (k+1+z.ts.length+3*z.gs.length) zs m≤_
   omega
theorem ORow.below_of {α:Type}{w w1 w':World}{B:Nat}{et:TypeId}{k:Nat}{cells:α→List Value}{sv:Value}{xs:List α} (h:ORow w1 B et k cells sv xs) (hb:ButL sv.ownBlock.toList w1 w') (h0:Below B w w1) (hB:B≤w1.heap.size):Below B w w' :=
 h0.trans ⟨hb.os,hb.tape,hb.output,hb.size,fun j hj=>hb.block j (by omega) fun hm=>by
  have:=(h.own_lt (g:=j) (by simpa using hm)).1
  omega⟩
def Mkd (k:Nat) (zs ys:List MK) (m:Nat):Prop:=ys.length=zs.length∧∀ i z,zs[i]?=some z→ys[i]?=some (if i<m then mkS (kn k zs i) z else z)
theorem Mkd.zero (k:Nat) (zs:List MK):Mkd k zs zs 0:=⟨rfl,fun i z h=>by simpa using h⟩
theorem Mkd.step {k m:Nat}{zs ys:List MK}{z:MK} (h:Mkd k zs ys m) (hz:zs[m]?=some z):Mkd k zs (ys.set m (mkS (kn k zs m) z)) (m+1):=by
 refine ⟨by simp[h.1],fun i y hy=>?_⟩
 rw[List.getElem?_set]
 by_cases e:m=i
 ·subst e
  rw[hz] at hy
  cases hy
  have:=(List.getElem?_eq_some_iff.1 hz).1
  rw[if_pos rfl,if_pos (by rw[h.1];exact this),if_pos (by omega)]
 ·rw[if_neg e,h.2 i y hy]
  by_cases e2:i<m
  ·rw[if_pos e2,if_pos (by omega)]
  ·rw[if_neg e2,if_neg (by omega)]
theorem mks_any (B k gS n:Nat) (zs:List MK) (w:World) (h:MkA w B gS zs) (hB:B≤gS) (hBw:B≤w.heap.size) (hn:zs.length=n) (ln:n≤6000) (hb:∀ z∈zs,z.ts.length≤1048576∧z.gs.length≤1048576) (h0:0<k) (hk:k≤100) :
  Calls Tryz.prog 15 #[.slice (some ⟨gS,0,none⟩) n n,.int .i64 k] w fun e w'=>∃ ys,e=.returned (.int .i64 ((kn k zs n:Nat):Int))∧MkA w' B gS ys∧Mkd k zs ys n∧Below B w w':=by
 have H:Hid (MkA w B gS zs):=h
 have HN:Hid (zs.length=n):=hn
 have HBD:Hid (∀ z∈zs,z.ts.length≤1048576∧z.gs.length≤1048576):=hb
 clear h hn hb
 go_enter Tryz.func15,Tryz.ntmps15
 go_wp2_with fail
 go_loopw [1,5] (fun kk i wr=>∃ (m K:Nat) (ys:List MK),m≤n∧kk=.int .i64 (K:Int)∧i=.int .i64 m∧0<K∧K≤900000000000∧Hid (K=kn k zs m)∧Hid (MkA wr B gS ys)∧Hid (Mkd k zs ys m)∧Hid (Below B w wr)) (fun _ i _=>n-(intOf i).toNat)
 case atStart=>exact ⟨0,k,zs,Nat.zero_le _,rfl,rfl,h0,by omega,by show k=_;cases zs <;> rfl,H,Mkd.zero _ _,Below.refl _ _⟩
 case round =>
  obtain ⟨m,K,ys,hm,rfl,rfl,hK0,hK1,HK,HM,HD,HB⟩:=hrel
  by_cases k1:m<n
  ·obtain ⟨z,hz⟩:∃ z,zs[m]?=some z:=⟨zs[m]'(by rw[HN.out];exact k1),by simp⟩
   have hy:ys[m]?=some z:=by have:=HD.out.2 m z hz;simpa using this
   have hzo:=HM.out.ok z (List.mem_of_getElem? hy)
   have hbd:=HBD.out z (List.mem_of_getElem? hz)
   obtain ⟨a,c,ea⟩:=ORow.val hzo.1
   obtain ⟨b,d,eb⟩:=ORow.val hzo.2
   have hml:=(List.getElem?_eq_some_iff.1 hy).1
   have c0:=HM.out.cell hy (j:=0) (v:=.bool z.b) rfl
   simp only[Nat.add_zero] at c0
   have z0:=qGz HM.out.blk (m*3)
   have hq:((K:Int) % 3==0)=decide ((K:Int) % 3=0):=rfl
   have HM1:Hid (MkA (wr.setCell ⟨gS,m*3,none⟩ (.bool (decide ((K:Int) % 3=0)))) B gS (ys.set m { z with b:=decide ((K:Int) % 3=0) })):=HM.out.flag hy _
   have hy1:(ys.set m { z with b:=decide ((K:Int) % 3=0) })[m]?=some { z with b:=decide ((K:Int) % 3=0) }:=by simp[hml]
   have HB1:Hid (Below B w (wr.setCell ⟨gS,m*3,none⟩ (.bool (decide ((K:Int) % 3=0))))):=HB.out.trans ⟨rfl,rfl,rfl,by simp,fun j hj=>Below.heap_setCell _ _ _ _ (by show j≠gS;omega)⟩
   have hws:B≤wr.heap.size:=Nat.le_trans hBw HB.out.size
   have c1:=HM1.out.cell hy1 (j:=1) (v:=z.tv) rfl
   rw[ea] at c1
   obtain ⟨wb,hwb⟩:∃ wb,wr.setCell ⟨gS,m*3,none⟩ (.bool (decide ((K:Int) % 3=0)))=wb:=⟨_,rfl⟩
   have hws1:B≤wb.heap.size:=by rw[←hwb];simpa using hws
   rw[hwb] at HM1 HB1 c1
   have HI:Hid (∀ W,Below wb.heap.size wb W→Calls Tryz.prog 27 #[.slice a z.ts.length c,.int .i64 ((K:Int)+1)] W fun e w'=>e=.returned (.int .i64 ((K:Int)+1+z.ts.length))∧MkA w' B gS (ys.set m { z with b:=decide ((K:Int) % 3=0),ts:=mkI (K+1) z.ts.length })∧Below B w w'):=fun W hW=>by
    have hA:=HM1.out.later hW
    have hzA:=(hA.ok _ (List.mem_of_getElem? hy1)).1
    have hc:=mki_any B (K+1) z.tv z.ts W hzA hbd.1 (by omega)
    rw[ea,show (((K+1:Nat):Int))=(K:Int)+1 by omega,← ea] at hc
    rw[←ea]
    refine hc.mono ?_
    rintro e w' ⟨rfl,h1,h2⟩
    refine ⟨by congr 2 <;> omega,?_,ORow.below_of hzA h2 (HB1.out.trans (hW.mono hws1)) (Nat.le_trans hws1 hW.size)⟩
    have:=hA.upT hy1 h1 h2
    rw[List.set_set] at this
    exact this
   have HG:Hid (∀ W,MkA W B gS (ys.set m { z with b:=decide ((K:Int) % 3=0),ts:=mkI (K+1) z.ts.length })→Below B w W→B≤W.heap.size→Calls Tryz.prog 28 #[.slice b z.gs.length d,.int .i64 ((K:Int)+1+z.ts.length)] W fun e w'=>e=.returned (.int .i64 ((K:Int)+1+z.ts.length+3*z.gs.length))∧MkA w' B gS (ys.set m (mkS K z))∧Below B w w'):=fun W hA hW hs=>by
    have hy2:(ys.set m { z with b:=decide ((K:Int) % 3=0),ts:=mkI (K+1) z.ts.length })[m]?=some { z with b:=decide ((K:Int) % 3=0),ts:=mkI (K+1) z.ts.length }:=by simp[hml]
    have hzA:=(hA.ok _ (List.mem_of_getElem? hy2)).2
    have hc:=mkg_any B (K+1+z.ts.length) z.gv z.gs W hzA hbd.2 (by omega) (by omega)
    rw[show (((K+1+z.ts.length:Nat):Int))=(K:Int)+1+z.ts.length by omega] at hc
    rw[←eb]
    refine hc.mono ?_
    rintro e w' ⟨rfl,h1,h2⟩
    refine ⟨by congr 2 <;> omega,?_,ORow.below_of hzA h2 hW hs⟩
    have:=hA.upG hy2 h1 h2
    rw[List.set_set] at this
    exact this
   have HS:Hid (Mkd k zs (ys.set m (mkS K z)) (m+1)):=by rw[HK.out];exact HD.out.step hz
   have HK2:Hid (K+1+z.ts.length+3*z.gs.length=kn k zs (m+1)):=by show _=_;rw[kn_succ zs k m z hz,HK.out]
   have HK3:Hid (kn k zs (m+1)≤900000000000):=by have:=kn_le zs HBD.out k (m+1);show _≤_;omega
   have HY:Hid (∀ W,MkA W B gS (ys.set m { z with b:=decide ((K:Int) % 3=0),ts:=mkI (K+1) z.ts.length })→W.cell? ⟨gS,m*3+2,none⟩=some (.slice b z.gs.length d)):=fun W hA=>by
    rw[←eb]
    exact hA.cell (z:={ z with b:=decide ((K:Int) % 3=0),ts:=mkI (K+1) z.ts.length }) (by simp[hml]) rfl
   clear hzo ea eb hy hy1 hz HM HD HB HM1 hml
   go_wp2_with fail
   refine (HI.out _ (Below.refl _ _)).mono ?_
   rintro e w1 ⟨rfl,hx,hy⟩
   have hs1:B≤w1.heap.size:=Nat.le_trans hBw hy.size
   have c2:=HY.out w1 hx
   have HX:Hid _:=HG.out w1 hx hy hs1
   clear hx hy hwb c0 c1 z0 HI HG HY HB1 hws hws1 hs1
   go_wp2_with fail
   refine Calls.mono HX.out ?_
   rintro e w2 ⟨rfl,hx,hy⟩
   have HX2:Hid (MkA w2 B gS (ys.set m (mkS K z))):=hx
   have HY2:Hid (Below B w w2):=hy
   clear hx hy HX c2
   go_wp2_with fail
   go_roundw
   case rel=>exact ⟨m+1,K+1+z.ts.length+3*z.gs.length,ys.set m (mkS K z),by omega,by congr 1 <;> omega,by go_num,by omega,by rw[HK2.out];exact HK3.out,HK2,HX2,HS,HY2⟩
   case measure=>simp[intOf];omega
  ·have e:m=n:=by omega
   subst e
   have HR:Hid ((K:Int)=((kn k zs m:Nat):Int)):=by have:=HK.out;show _=_;rw[this]
   clear HK
   go_wp2_with fail
   go_ret
   exact ⟨ys,by show Ending.returned (.int .i64 (K:Int))=_;rw[HR.out],HM.out,HD.out,HB.out⟩
theorem hds_any (B k gS n:Nat) (zs ys:List MK) (w:World) (h:MkA w B gS ys) (hd:Mkd k zs ys n) (hn:zs.length=n) (ln:n≤6000) (hb:∀ z∈zs,z.ts.length≤1048576∧z.gs.length≤1048576) (h0:0<k) (hk:k≤100) :
  Calls Tryz.prog 16 #[.slice (some ⟨gS,0,none⟩) n n,.int .i64 k] w fun e w'=>e=.returned (.int .i64 ((kn k zs n:Nat):Int))∧Below w.heap.size w w':=by
 have H:Hid (MkA w B gS ys):=h
 have HD:Hid (Mkd k zs ys n):=hd
 have HN:Hid (zs.length=n):=hn
 have HBD:Hid (∀ z∈zs,z.ts.length≤1048576∧z.gs.length≤1048576):=hb
 clear h hn hb hd
 go_enter Tryz.func16,Tryz.ntmps16
 go_wp2_with fail
 go_loopw [1,5] (fun kk i wr=>∃ (m K:Nat),m≤n∧kk=.int .i64 (K:Int)∧i=.int .i64 m∧0<K∧K≤900000000000∧Hid (K=kn k zs m)∧Hid (Below w.heap.size w wr)) (fun _ i _=>n-(intOf i).toNat)
 case atStart=>exact ⟨0,k,Nat.zero_le _,rfl,rfl,h0,by omega,by show k=_;cases zs <;> rfl,Below.refl _ _⟩
 case round =>
  obtain ⟨m,K,hm,rfl,rfl,hK0,hK1,HK,HB⟩:=hrel
  by_cases k1:m<n
  ·obtain ⟨z,hz⟩:∃ z,zs[m]?=some z:=⟨zs[m]'(by rw[HN.out];exact k1),by simp⟩
   have hy:ys[m]?=some (mkS K z):=by have:=HD.out.2 m z hz;rw[if_pos k1,← HK.out] at this;exact this
   have hr:=H.out.later HB.out
   have hzo:=hr.ok _ (List.mem_of_getElem? hy)
   have hbd:=HBD.out z (List.mem_of_getElem? hz)
   obtain ⟨a,c,ea,sa⟩:=ORow.lies hzo.1 (fun y=>intC_len y)
   obtain ⟨b,d,eb,sb⟩:=ORow.lies hzo.2 GD.len
   have ea':z.tv=.slice a z.ts.length c:=by have:=ea;simpa [mkS,mkI_len] using this
   have eb':z.gv=.slice b z.gs.length d:=by have:=eb;simpa [mkS,mkG_len] using this
   have c0:=hr.cell hy (j:=0) (v:=.bool (decide ((K:Int) % 3=0))) rfl
   have c1:=hr.cell hy (j:=1) (v:=z.tv) rfl
   have c2:=hr.cell hy (j:=2) (v:=z.gv) rfl
   rw[ea'] at c1
   rw[eb'] at c2
   simp only[Nat.add_zero] at c0
   have hq:((K:Int) % 3==0)=decide ((K:Int) % 3=0):=rfl
   obtain ⟨nt,hnt⟩:∃ nt,z.ts.length=nt:=⟨_,rfl⟩
   obtain ⟨ng,hng⟩:∃ ng,z.gs.length=ng:=⟨_,rfl⟩
   have HI:Hid (∀ W,Below wr.heap.size wr W→Calls Tryz.prog 29 #[.slice a nt c,.int .i64 ((K:Int)+1)] W fun e w'=>e=.returned (.int .i64 ((K:Int)+1+nt))∧Below W.heap.size W w'):=fun W hW=>by
    have hc:=hldi_any (K+1) nt c a W (by have:=sa.later hW;rw[show (mkS K z).ts=mkI (K+1) nt by rw[←hnt];rfl] at this;exact this) (by omega) (by omega)
    rw[show (((K+1:Nat):Int))=(K:Int)+1 by omega] at hc
    refine hc.mono ?_
    rintro e w' ⟨rfl,h1⟩
    exact ⟨by congr 2 <;> omega,h1⟩
   have HG:Hid (∀ W,Below wr.heap.size wr W→Calls Tryz.prog 30 #[.slice b ng d,.int .i64 ((K:Int)+1+nt)] W fun e w'=>e=.returned (.int .i64 ((K:Int)+1+nt+3*ng))∧Below W.heap.size W w'):=fun W hW=>by
    have hc:=hldg_any (K+1+nt) ng d b W (by have:=sb.later hW;rw[show (mkS K z).gs=mkG (K+1+nt) ng by rw[←hnt,← hng];rfl] at this;exact this) (by omega) (by omega) (by omega)
    rw[show (((K+1+nt:Nat):Int))=(K:Int)+1+nt by omega] at hc
    refine hc.mono ?_
    rintro e w' ⟨rfl,h1⟩
    exact ⟨by congr 2 <;> omega,h1⟩
   have HK2:Hid (K+1+nt+3*ng=kn k zs (m+1)):=by show _=_;rw[kn_succ zs k m z hz,HK.out,hnt,hng]
   have HK3:Hid (kn k zs (m+1)≤900000000000):=by have:=kn_le zs HBD.out k (m+1);show _≤_;omega
   rw[hnt] at c1 hbd
   rw[hng] at c2 hbd
   clear hzo ea eb ea' eb' sa sb hy hz hr hnt hng
   go_wp2_with fail
   refine Calls.mono (HI.out _ (Below.refl _ _)) ?_
   rintro e w1 ⟨rfl,hx⟩
   have c3:=cell_later hx c2
   have HX1:Hid (Below wr.heap.size wr w1):=hx
   clear hx c0 c1 c2 HI
   go_wp2_with fail
   refine Calls.mono (HG.out _ HX1.out) ?_
   rintro e w2 ⟨rfl,hx⟩
   have HX2:Hid (Below w.heap.size w w2):=HB.out.trans ((HX1.out.trans (hx.mono HX1.out.size)).mono HB.out.size)
   clear hx c3 HG HX1
   go_wp2_with fail
   go_roundw
   case rel=>exact ⟨m+1,K+1+nt+3*ng,by omega,by congr 1 <;> omega,by go_num,by omega,by rw[HK2.out];exact HK3.out,HK2,HX2⟩
   case measure=>simp[intOf];omega
  ·have e:m=n:=by omega
   subst e
   have HR:Hid ((K:Int)=((kn k zs m:Nat):Int)):=by have:=HK.out;show _=_;rw[this]
   clear HK
   go_wp2_with fail
   go_ret
   exact ⟨by show Ending.returned (.int .i64 (K:Int))=_;rw[HR.out],HB.out⟩
theorem mks_nil (k:Nat) (w:World):Calls Tryz.prog 15 #[.slice none 0 0,.int .i64 k] w fun e w'=>e=.returned (.int .i64 k)∧Below w.heap.size w w':=by
 go_enter Tryz.func15,Tryz.ntmps15
 go_wp2_with fail
 refine wp_loop_rounds 1 ?_
 rw[rounds_succ]
 go_wp2_with fail
 go_ret
 exact ⟨rfl,Below.refl _ _⟩
theorem hds_nil (k:Nat) (w:World):Calls Tryz.prog 16 #[.slice none 0 0,.int .i64 k] w fun e w'=>e=.returned (.int .i64 k)∧Below w.heap.size w w':=by
 go_enter Tryz.func16,Tryz.ntmps16
 go_wp2_with fail
 refine wp_loop_rounds 1 ?_
 rw[rounds_succ]
 go_wp2_with fail
 go_ret
 exact ⟨rfl,Below.refl _ _⟩
def chr (k:Nat):UInt8:=UInt8.ofNat (48+k % 10)
theorem chr_nat (k:Nat):(chr k).toNat=48+k % 10:=by unfold chr;rw[UInt8.toNat_ofNat'];omega
def dg:Nat→Nat→ByteArray→ByteArray
 | 0,_,out=>out
 | f+1,k,out=>if k=0 then out else dg f (k / 10) (⟨#[chr k]⟩++out)
def mtx (k:Nat):ByteArray:=⟨#[109]⟩++dg k k ⟨#[]⟩
theorem mtx_any (k:Nat) (w:World) (hk:0<k) (hk2:k≤100000000000000) :
  Calls Tryz.prog 51 #[.int .i64 (k:Int)] w fun e w'=>e=.returned (.string (mtx k))∧Below w.heap.size w w':=by
 go_enter Tryz.func51,Tryz.ntmps51
 go_wp2_with fail
 go_loopw [0,3] (fun a c wr=>∃ (j f:Nat) (out:ByteArray),a=.int .i64 (j:Int)∧c=.string out∧j≤f∧out.size+j≤k∧Below w.heap.size w wr∧Hid (dg f j out=dg k k ⟨#[]⟩)) (fun a _ _=>(intOf a).toNat)
 case atStart=>exact ⟨k,k,_,rfl,rfl,Nat.le_refl _,by show 0+k≤k;omega,Below.refl _ _,rfl⟩
 case round =>
  obtain ⟨j,f,out,rfl,rfl,hjf,hos,hB,hF⟩:=hrel
  by_cases k1:0<j
  ·obtain ⟨f',rfl⟩:∃ f',f=f'+1:=⟨f-1,by omega⟩
   have HD:Hid (dg f' (j / 10) (⟨#[chr j]⟩++out)=dg k k ⟨#[]⟩):=by
    have:=hF.out;rw[dg,if_neg (by omega)] at this;exact this
   clear hF
   have hcv:(convert 163 9 (.slice (some ⟨wr.heap.size,0,none⟩) 1 1)).run Tryz.prog (wr.alloc (.cells #[.int .u8 (48+(j:Int) % 10)] 5))=.ok (.string ⟨#[chr j]⟩) (wr.alloc (.cells #[.int .u8 (48+(j:Int) % 10)] 5)) :=
    run_convert_bytes_back (P:=Tryz.prog) _ 163 9 5 ⟨wr.heap.size,0,none⟩ 1 [chr j] Tryz.underlying163 Tryz.underlying5 Tryz.underlying9 (fun i hi=>by
     obtain rfl:i=0:=by simp at hi;omega
     have e:((chr j).toNat:Int)=48+(j:Int) % 10:=by rw[chr_nat];omega
     show (wr.alloc _).cell? (Addr.add ⟨wr.heap.size,0,none⟩ 0)=some (.int .u8 ((chr j).toNat:Int))
     rw[e];simp[go_sem])
   have hsz:(ByteArray.mk #[chr j]).size=1:=rfl
   have hs2:((⟨#[chr j]⟩:ByteArray)++out).size=1+out.size:=by rw[ByteArray.size_append];rfl
   go_wp2_with fail
   go_roundw
   case rel=>exact ⟨j / 10,f',_,by congr 1,rfl,by omega,by rw[hs2];omega,hB.alloc hB.size _,HD⟩
   case measure=>simp[intOf];omega
  ·obtain rfl:j=0:=by omega
   have HD:Hid (out=dg k k ⟨#[]⟩):=by
    have:=hF.out
    cases f with
    | zero=>exact this
    | succ f=>rw[dg,if_pos rfl] at this;exact this
   clear hF
   have hs1:(ByteArray.mk #[109]).size=1:=rfl
   go_wp2_with fail
   go_ret
   exact ⟨by unfold mtx;rw[←HD.out];rfl,hB⟩
attribute [local go_sem] run_store_float
structure MR (g:Nat) (T:TypeId) (n:Nat) (w w':World):Prop where
 os:w'.os=w.os
 tape:w'.tape=w.tape
 output:w'.output=w.output
 size:w.heap.size≤w'.heap.size
 block:∀ j,j<w.heap.size→j≠g→w'.heap[j]?=w.heap[j]?
 row:∃ ar,w'.heap[g]?=some (.cells ar T)∧ar.size=n
theorem MR.refl {g:Nat}{T:TypeId}{n:Nat}{w:World} (h:∃ ar,w.heap[g]?=some (.cells ar T)∧ar.size=n):MR g T n w w:=⟨rfl,rfl,rfl,Nat.le_refl _,fun _ _ _=>rfl,h⟩
theorem MR.set {g:Nat}{T:TypeId}{n:Nat}{w w':World} (h:MR g T n w w') (j:Nat) (v:Value):MR g T n w (w'.setCell ⟨g,j,none⟩ v) :=
 ⟨h.os,h.tape,h.output,by simpa using h.size,fun q hq hn=>by rw[Below.heap_setCell _ _ _ _ (by show q≠g;exact hn)];exact h.block q hq hn,by
  obtain ⟨ar,h1,h2⟩:=h.row
  exact ⟨_,qLz h1 j v,by simpa using h2⟩⟩
theorem MR.later {g:Nat}{T:TypeId}{n:Nat}{w w1 w2:World} (h:MR g T n w w1) (hb:Below w1.heap.size w1 w2):MR g T n w w2 :=
 ⟨hb.os.trans h.os,hb.tape.trans h.tape,hb.output.trans h.output,Nat.le_trans h.size hb.size,fun q hq hn=>(hb.block q (Nat.lt_of_lt_of_le hq h.size)).trans (h.block q hq hn),by
  obtain ⟨ar,h1,h2⟩:=h.row
  exact ⟨ar,qBz hb h1,h2⟩⟩
theorem MR.cell {g:Nat}{T:TypeId}{n:Nat}{w w':World} (h:MR g T n w w') (j:Nat) (hj:j<n):∃ y,w'.cell? ⟨g,j,none⟩=some y:=by
 obtain ⟨ar,h1,h2⟩:=h.row
 exact ⟨ar[j]'(by omega),by rw[qAz h1];simp⟩
theorem MR.froz {g:Nat}{T:TypeId}{n:Nat}{w w':World} (h:MR g T n w w') (j:Nat):w'.frozen? ⟨g,j,none⟩=false:=by
 obtain ⟨ar,h1,h2⟩:=h.row
 exact qGz h1 j
theorem mtx_int (z:Int) (w:World) (h0:0<z) (h1:z≤100000000000000) :
  Calls Tryz.prog 51 #[.int .i64 z] w fun e w'=>(∃ s,e=.returned (.string s))∧Below w.heap.size w w':=by
 obtain ⟨k,rfl⟩:∃ k:Nat,z=(k:Int):=⟨z.toNat,by omega⟩
 exact (mtx_any k w (by omega) (by omega)).mono fun e w' h=>⟨⟨_,h.1⟩,h.2⟩
theorem markUpS_mr (g len cap n k0:Nat) (T:TypeId) (w:World) (hg:∃ ar,w.heap[g]?=some (.cells ar T)∧ar.size=n) (hs:len*2≤n) (hlen:len≤1048576) (h0:0<k0) (hk:k0≤30000000000000) :
  Calls Tryz.prog 52 #[.slice (some ⟨g,0,none⟩) len cap,.int .i64 (k0:Int)] w fun e w'=>e=.returned (.int .i64 ((k0+2*len:Nat):Int))∧MR g T n w w':=by
 have HG:Hid (MR g T n w w):=MR.refl hg
 clear hg
 go_enter Tryz.func52,Tryz.ntmps52
 go_wp2_with fail
 go_loopw [1,5] (fun kk ii wr=>∃ (m K:Nat),m≤len∧ii=.int .i64 m∧kk=.int .i64 (K:Int)∧0<K∧K≤40000000000000∧Hid (K=k0+2*m)∧Hid (MR g T n w wr)) (fun _ ii _=>len-(intOf ii).toNat)
 case atStart=>exact ⟨0,k0,Nat.zero_le _,rfl,rfl,h0,by omega,rfl,HG⟩
 case round =>
  clear HG
  obtain ⟨m,K,hm,rfl,rfl,hK0,hK1,HK,HM⟩:=hrel
  by_cases k1:m<len
  ·obtain ⟨y0,e0⟩:∃ y,wr.cell? ⟨g,m*2,none⟩=some y:=HM.out.cell _ (by omega)
   obtain ⟨y1,e1⟩:∃ y,wr.cell? ⟨g,m*2+1,none⟩=some y:=HM.out.cell _ (by omega)
   have z0:=HM.out.froz
   go_wp2_with fail
   go_roundw
   case rel=>exact ⟨m+1,K+2,by omega,by go_num,by congr 1 <;> omega,by omega,by have:=HK.out;omega,by have:=HK.out;show K+2=_;omega,((HM.out.set _ _).set _ _)⟩
   case measure=>simp[intOf];omega
  ·have hml:m=len:=by omega
   have HR:Hid ((K:Int)=((k0+2*len:Nat):Int)):=by have:=HK.out;show _=_;rw[this,hml]
   clear HK
   go_wp2_with fail
   go_ret
   exact ⟨by show Ending.returned (.int .i64 (K:Int))=_;rw[HR.out],HM.out⟩
theorem markInsS_mr (g len cap n k0:Nat) (T:TypeId) (w:World) (hg:∃ ar,w.heap[g]?=some (.cells ar T)∧ar.size=n) (hs:len*5≤n) (hlen:len≤1048576) (h0:0<k0) (hk:k0≤30000000000000) :
  Calls Tryz.prog 54 #[.slice (some ⟨g,0,none⟩) len cap,.int .i64 (k0:Int)] w fun e w'=>e=.returned (.int .i64 ((k0+5*len:Nat):Int))∧MR g T n w w':=by
 have HG:Hid (MR g T n w w):=MR.refl hg
 clear hg
 go_enter Tryz.func54,Tryz.ntmps54
 go_wp2_with fail
 go_loopw [1,5] (fun kk ii wr=>∃ (m K:Nat),m≤len∧ii=.int .i64 m∧kk=.int .i64 (K:Int)∧0<K∧K≤40000000000000∧Hid (K=k0+5*m)∧Hid (MR g T n w wr)) (fun _ ii _=>len-(intOf ii).toNat)
 case atStart=>exact ⟨0,k0,Nat.zero_le _,rfl,rfl,h0,by omega,rfl,HG⟩
 case round =>
  clear HG
  obtain ⟨m,K,hm,rfl,rfl,hK0,hK1,HK,HM⟩:=hrel
  by_cases k1:m<len
  ·obtain ⟨y0,e0⟩:∃ y,wr.cell? ⟨g,m*5,none⟩=some y:=HM.out.cell _ (by omega)
   obtain ⟨y1,e1⟩:∃ y,wr.cell? ⟨g,m*5+1,none⟩=some y:=HM.out.cell _ (by omega)
   obtain ⟨y2,e2⟩:∃ y,wr.cell? ⟨g,m*5+2,none⟩=some y:=HM.out.cell _ (by omega)
   obtain ⟨y3,e3⟩:∃ y,wr.cell? ⟨g,m*5+3,none⟩=some y:=HM.out.cell _ (by omega)
   obtain ⟨y4,e4⟩:∃ y,wr.cell? ⟨g,m*5+4,none⟩=some y:=HM.out.cell _ (by omega)
   have z0:=HM.out.froz
   go_wp2_with fail
   go_roundw
   case rel=>exact ⟨m+1,K+5,by omega,by go_num,by congr 1 <;> omega,by omega,by have:=HK.out;omega,by have:=HK.out;show K+5=_;omega,(((((HM.out.set _ _).set _ _).set _ _).set _ _).set _ _)⟩
   case measure=>simp[intOf];omega
  ·have hml:m=len:=by omega
   have HR:Hid ((K:Int)=((k0+5*len:Nat):Int)):=by have:=HK.out;show _=_;rw[this,hml]
   clear HK
   go_wp2_with fail
   go_ret
   exact ⟨by show Ending.returned (.int .i64 (K:Int))=_;rw[HR.out],HM.out⟩
theorem markValueS_mr (g len cap n k0:Nat) (T:TypeId) (w:World) (hg:∃ ar,w.heap[g]?=some (.cells ar T)∧ar.size=n) (hs:len*5≤n) (hlen:len≤1048576) (h0:0<k0) (hk:k0≤30000000000000) :
  Calls Tryz.prog 53 #[.slice (some ⟨g,0,none⟩) len cap,.int .i64 (k0:Int)] w fun e w'=>e=.returned (.int .i64 ((k0+5*len:Nat):Int))∧MR g T n w w':=by
 have HG:Hid (MR g T n w w):=MR.refl hg
 clear hg
 go_enter Tryz.func53,Tryz.ntmps53
 go_wp2_with fail
 go_loopw [1,5] (fun kk ii wr=>∃ (m K:Nat),m≤len∧ii=.int .i64 m∧kk=.int .i64 (K:Int)∧0<K∧K≤40000000000000∧Hid (K=k0+5*m)∧Hid (MR g T n w wr)) (fun _ ii _=>len-(intOf ii).toNat)
 case atStart=>exact ⟨0,k0,Nat.zero_le _,rfl,rfl,h0,by omega,rfl,HG⟩
 case round =>
  clear HG
  obtain ⟨m,K,hm,rfl,rfl,hK0,hK1,HK,HM⟩:=hrel
  by_cases k1:m<len
  ·obtain ⟨y0,e0⟩:∃ y,wr.cell? ⟨g,m*5,none⟩=some y:=HM.out.cell _ (by omega)
   obtain ⟨y1,e1⟩:∃ y,wr.cell? ⟨g,m*5+1,none⟩=some y:=HM.out.cell _ (by omega)
   obtain ⟨y2,e2⟩:∃ y,wr.cell? ⟨g,m*5+2,none⟩=some y:=HM.out.cell _ (by omega)
   have z0:=HM.out.froz
   go_wp2_with fail
   refine (mtx_int _ _ (by omega) (by omega)).mono ?_
   rintro e w1 ⟨⟨s1,rfl⟩,hx⟩
   have HM1:Hid (MR g T n w w1):=((((HM.out.set _ _).set _ _).set _ _)).later hx
   clear hx HM e0 e1 e2 z0
   obtain ⟨y3,e3⟩:∃ y,w1.cell? ⟨g,m*5+3,none⟩=some y:=HM1.out.cell _ (by omega)
   obtain ⟨y4,e4⟩:∃ y,w1.cell? ⟨g,m*5+4,none⟩=some y:=HM1.out.cell _ (by omega)
   have z3:=HM1.out.froz
   go_wp2_with fail
   go_roundw
   case rel=>exact ⟨m+1,K+5,by omega,by go_num,by congr 1 <;> omega,by omega,by have:=HK.out;omega,by have:=HK.out;show K+5=_;omega,((HM1.out.set _ _).set _ _)⟩
   case measure=>simp[intOf];omega
  ·have hml:m=len:=by omega
   have HR:Hid ((K:Int)=((k0+5*len:Nat):Int)):=by have:=HK.out;show _=_;rw[this,hml]
   clear HK
   go_wp2_with fail
   go_ret
   exact ⟨by show Ending.returned (.int .i64 (K:Int))=_;rw[HR.out],HM.out⟩
theorem markNamedS_mr (g len cap n k0:Nat) (T:TypeId) (w:World) (hg:∃ ar,w.heap[g]?=some (.cells ar T)∧ar.size=n) (hs:len*4≤n) (hlen:len≤1048576) (h0:0<k0) (hk:k0≤30000000000000) :
  Calls Tryz.prog 55 #[.slice (some ⟨g,0,none⟩) len cap,.int .i64 (k0:Int)] w fun e w'=>e=.returned (.int .i64 ((k0+4*len:Nat):Int))∧MR g T n w w':=by
 have HG:Hid (MR g T n w w):=MR.refl hg
 clear hg
 go_enter Tryz.func55,Tryz.ntmps55
 go_wp2_with fail
 go_loopw [1,5] (fun kk ii wr=>∃ (m K:Nat),m≤len∧ii=.int .i64 m∧kk=.int .i64 (K:Int)∧0<K∧K≤40000000000000∧Hid (K=k0+4*m)∧Hid (MR g T n w wr)) (fun _ ii _=>len-(intOf ii).toNat)
 case atStart=>exact ⟨0,k0,Nat.zero_le _,rfl,rfl,h0,by omega,rfl,HG⟩
 case round =>
  clear HG
  obtain ⟨m,K,hm,rfl,rfl,hK0,hK1,HK,HM⟩:=hrel
  by_cases k1:m<len
  ·go_wp2_with fail
   refine (mtx_int _ _ (by omega) (by omega)).mono ?_
   rintro e w1 ⟨⟨s1,rfl⟩,hx⟩
   have HM1:Hid (MR g T n w w1):=(HM.out).later hx
   clear hx HM 
   obtain ⟨y0,e0⟩:∃ y,w1.cell? ⟨g,m*4,none⟩=some y:=HM1.out.cell _ (by omega)
   obtain ⟨y1,e1⟩:∃ y,w1.cell? ⟨g,m*4+1,none⟩=some y:=HM1.out.cell _ (by omega)
   obtain ⟨y2,e2⟩:∃ y,w1.cell? ⟨g,m*4+2,none⟩=some y:=HM1.out.cell _ (by omega)
   obtain ⟨y3,e3⟩:∃ y,w1.cell? ⟨g,m*4+3,none⟩=some y:=HM1.out.cell _ (by omega)
   have z0:=HM1.out.froz
   go_wp2_with fail
   go_roundw
   case rel=>exact ⟨m+1,K+4,by omega,by go_num,by congr 1 <;> omega,by omega,by have:=HK.out;omega,by have:=HK.out;show K+4=_;omega,((((HM1.out.set _ _).set _ _).set _ _).set _ _)⟩
   case measure=>simp[intOf];omega
  ·have hml:m=len:=by omega
   have HR:Hid ((K:Int)=((k0+4*len:Nat):Int)):=by have:=HK.out;show _=_;rw[this,hml]
   clear HK
   go_wp2_with fail
   go_ret
   exact ⟨by show Ending.returned (.int .i64 (K:Int))=_;rw[HR.out],HM.out⟩
end Go.Proofs.YtfejmalmnjmanaaGreatDoor
