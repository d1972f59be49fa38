import Derived.Test.YtjglgbepobmjhaaGreatDoorP16
import Derived.Test.YtjglgbepobmjhaaGreatDoorP12
import Derived.Test.YtjglgbepobmjhaaGreatDoorP07
import Derived.Test.YtjglgbepobmjhaaGreatDoorP06
import Derived.Lib.SliceRun
import Derived.Test.YtjglgbepobmjhaaGreatDoorP08
import Derived.Test.YtjglgbepobmjhaaGreatDoorP11
import Derived.Test.YtjglgbepobmjhaaGreatDoorP13
set_option linter.unusedVariables false
set_option linter.unusedSimpArgs false
set_option maxRecDepth 20000
set_option maxHeartbeats 8000000
namespace Go.Proofs.YtjglgbepobmjhaaGreatDoor
open Go.RowKit
def slLen:Option Value→Nat
 | some (.slice _ n _)=>n
 | _=>0
structure RuI (c:List FD) (ins:List ID) (R:Except (Nat × Nat) WkS) (nR:Nat) (W0:World) (gW gS nI p:Nat) (cv iv:Value) (w wr:World) (zs:List SR) (hv:Value) (due:List Bool):Prop where
 wl:WlV W0.heap.size gW gS nI p cv iv wr zs hv due
 run:∃k,Runs c ins k ⟨zs.map SR.o,due⟩ R
 ok:WOk nR nI ⟨zs.map SR.o,due⟩
 gz:WZg ⟨zs.map SR.o,due⟩
 but:ButL [gW,gS] w wr
 own:∀g,hv.ownBlock=some g→w.heap.size≤g
 low:Below W0.heap.size W0 wr
 clo:Clo ins ⟨zs.map SR.o,due⟩
theorem RuI.muv {c:List FD} {ins:List ID} {R:Except (Nat × Nat) WkS} {nR:Nat} {W0:World} {gW gS nI p:Nat} {cv iv:Value} {w wr:World} {zs:List SR} {hv:Value} {due:List Bool} (h:RuI c ins R nR W0 gW gS nI p cv iv w wr zs hv due):2*cntB false wr gS+slLen (wr.cell? ⟨gW,4,none⟩)=mu ⟨zs.map SR.o,due⟩:=by
 obtain⟨l,h1,_,h3⟩:=h.wl.hp
 obtain⟨a,cap,e⟩:=h1.row.val
 rw[h.wl.cells.2.2.2.2,h.wl.st.cnt,e,nz_len]
 unfold mu
 simp only[slLen]
 omega
theorem runs_step {c:List FD} {ins:List ID} {k a:Nat} {s:WkS} {R:Except (Nat × Nat) WkS} (h:Runs c ins k s R) (ha:IsLeast s.due a):(∀e,passW c ins a s=.error e→R=.error e)∧(∀s',passW c ins a s=.ok s'→∃k',Runs c ins k' s' R):=by
 cases k with
 | zero =>
  rcases h with ⟨h1,rfl⟩ | ⟨b,e,h1,h2,rfl⟩
  ·exact absurd ha.1 (h1 a)
  ·cases h1.uniq ha
   rw[h2]
   exact⟨(fun e' he=>by cases he;rfl),(fun s' hs=>by cases hs)⟩
 | succ k =>
  obtain⟨b,s1,h1,h2,h3⟩:=h
  cases h1.uniq ha
  rw[h2]
  exact⟨(fun e' he=>by cases he),fun s' hs=>by cases hs;exact⟨k,h3⟩⟩
theorem runs_end {c:List FD} {ins:List ID} {k:Nat} {s:WkS} {R:Except (Nat × Nat) WkS} (h:Runs c ins k s R) (ha:AllOff s.due):R=.ok s:=by
 cases k with
 | zero =>
  rcases h with ⟨_,rfl⟩ | ⟨b,e,h1,_⟩
  ·rfl
  ·exact absurd h1.1 (ha b)
 | succ k =>
  obtain⟨b,s1,h1,_⟩:=h
  exact absurd h1.1 (ha b)
theorem heap_least {w:World} {B:Nat} {hv:Value} {due:List Bool} {l:List Nat} {x:Nat} (h1:HpV w B hv l) (h2:∀z,z∈l↔due[z]?=some true) (hx:l[0]?=some x):IsLeast due x:=by
 refine⟨(h2 x).1 (List.mem_of_getElem? hx),fun b hb e=>?_⟩
 have hm:=(h2 b).2 e
 obtain⟨i,hi⟩:=List.mem_iff_getElem?.1 hm
 have:=h1.hp.least hx i b hi
 omega
theorem WlV.popped {B gW gS nI p x:Nat} {cv iv:Value} {w w':World} {zs:List SR} {hv hv':Value} {due:List Bool} {l l':List Nat} (h:WlV B gW gS nI p cv iv w zs hv due) (h2:∀z,z∈l↔due[z]?=some true) (h3:l.length=due.countP (· == true)) (hx:due[x]?=some true) (q1:w'.heap[gW]?=some (.cells ((#[cv,.int .i64 p,iv,.slice (some ⟨gS,0,none⟩) nI nI,hv]:Array Value).setIfInBounds 4 hv') 77)) (q2:HpV w' B hv' l') (q3:∀z,z∈l'↔z≠x∧z∈l) (q4:l'.length+1=l.length) (q5:ButL (gW :: hv.ownBlock.toList) w w') (q6:hv'.ownBlock=hv.ownBlock):WlV B gW gS nI p cv iv w' zs hv' (due.set x false):=by
 obtain⟨k1,k2⟩:=due_pop hx h2 h3 q3 q4
 exact h.heaped q5 (by simpa using q1) ⟨l',q2,k1,k2⟩ (by simpa using h.dul) (fun g e=>.inl (by rw[←q6];exact e))
theorem start_states (d:FD) (nI:Nat) (h:d.ins.length=nI) (h0:0<nI):reachW ⟨(List.replicate nI sr0).map SR.o,List.replicate nI false⟩ 0 ⟨startT d.params.toNat d.regs.toNat d.rest,[]⟩=some (startS d):=by
 obtain⟨m,rfl⟩:∃m,nI=m+1:=⟨nI-1,by omega⟩
 unfold reachW startS
 rw[h]
 simp[sr0,List.replicate_succ]
def RnA (B gW gS nI p:Nat) (cv iv:Value) (R:Except (Nat × Nat) WkS) (d:FD) (e:Ending) (w':World):Prop:=match R with
 | .error x=>e=.returned (EV (some ((x.1:Int),(p:Int),(x.2:Int))))
 | .ok s=>(∃i:Nat,LeastRd s (EE d) i∧e=.returned (EV (some (14,(p:Int),(i:Int)))))∨((∀i:Nat,(∃x,s.st[i]?=some (some x))→¬TJ.Cyc (EE d) i)∧e=.returned (EV none)∧∃zs hv,WlV B gW gS nI p cv iv w' zs hv s.due∧zs.map SR.o=s.st)
def LrP (st:List (Option SD)) (d:FD) (o:Option Nat):Prop:=match o with
 | none=>∀i:Nat,(∃x,st[i]?=some (some x))→¬TJ.Cyc (EE d) i
 | some i=>∀due,LeastRd ⟨st,due⟩ (EE d) i
def zer (o:Nat):Nat→List Int→List Int
 | 0,ts=>ts
 | m+1,ts=>zer (o+1) m (ts.set o 0)
theorem zer_len (m:Nat):∀(o:Nat) (ts:List Int),(zer o m ts).length=ts.length:=by
 induction m with
 | zero=>intro o ts;rfl
 | succ m ih=>intro o ts;unfold zer;rw[ih];simp
theorem zer_get (m:Nat):∀(o:Nat) (ts:List Int) (i:Nat),(zer o m ts)[i]?=if o≤i∧i<o+m∧i<ts.length then some 0 else ts[i]?:=by
 induction m with
 | zero=>intro o ts i;unfold zer;rw[if_neg (by omega)]
 | succ m ih =>
  intro o ts i
  unfold zer
  rw[ih,List.getElem?_set,List.length_set]
  by_cases h:o=i
  ·subst h
   rw[if_neg (by omega),if_pos rfl]
   by_cases h2:o<ts.length
   ·rw[if_pos h2,if_pos (by omega)]
   ·rw[if_neg h2,if_neg (by omega),List.getElem?_eq_none (by omega)]
  ·rw[if_neg h]
   by_cases h2:o+1≤i∧i<o+1+m∧i<ts.length
   ·rw[if_pos h2,if_pos (by omega)]
   ·rw[if_neg h2,if_neg (by omega)]
theorem caught_eq (ts:List Int) (k:Nat) (h:k+2≤ts.length):((zer k (ts.length-k) ts).set k 1).set (k+1) 1=(ts.take k++[1,1])++List.replicate (ts.length-k-2) 0:=by
 apply List.ext_getElem?
 intro i
 rw[List.getElem?_set,List.getElem?_set,List.length_set,zer_len,zer_get]
 by_cases h1:i<k
 ·rw[if_neg (by omega),if_neg (by omega),if_neg (by omega),List.getElem?_append_left (by simp;omega),List.getElem?_append_left (by simp;omega),List.getElem?_take_of_lt h1]
 ·by_cases h2:i=k
  ·subst h2
   rw[if_neg (by omega),if_pos rfl,if_pos (by omega),List.getElem?_append_left (by simp;omega),List.getElem?_append_right (by simp;omega)]
   simp[Nat.min_eq_left (show i≤ts.length by omega)]
  ·by_cases h3:i=k+1
   ·subst h3
    rw[if_pos rfl,if_pos (by omega),List.getElem?_append_left (by simp;omega),List.getElem?_append_right (by simp;omega)]
    simp[Nat.min_eq_left (show k≤ts.length by omega)]
   ·rw[if_neg (by omega),if_neg (by omega),List.getElem?_append_right (by simp;omega),List.getElem?_replicate]
    simp only[List.length_append,List.length_take,List.length_cons,List.length_nil]
    rw[Nat.min_eq_left (show k≤ts.length by omega)]
    by_cases h4:i<ts.length
    ·rw[if_pos (by omega),if_pos (by omega)]
    ·rw[if_neg (by omega),if_neg (by omega),List.getElem?_eq_none (by omega)]
theorem OI.zero (m:Nat):∀(o:Nat) {w:World} {B g n cap:Nat} {ts:List Int},OI w B (.slice (some ⟨g,0,none⟩) n cap) ts→o+m≤ts.length→OI (w.setCells g o (List.replicate m (.int .i64 0))) B (.slice (some ⟨g,0,none⟩) n cap) (zer o m ts):=by
 induction m with
 | zero=>intro o w B g n cap ts h hm;exact h
 | succ m ih =>
  intro o w B g n cap ts h hm
  rw[List.replicate_succ]
  unfold World.setCells zer
  exact ih (o+1) (h.set o 0 (by omega)) (by simp;omega)
theorem ButL.zero {S:List Nat} {w0:World} {g:Nat} (hg:g∈S∨w0.heap.size≤g) (m:Nat):∀(o:Nat) {w:World},ButL S w0 w→ButL S w0 (w.setCells g o (List.replicate m (.int .i64 0))):=by
 induction m with
 | zero=>intro o w h;exact h
 | succ m ih =>
  intro o w h
  rw[List.replicate_succ]
  unfold World.setCells
  exact ih (o+1) (h.seto hg o _)
theorem blk_many {g i:Nat} {o:Obj} (hne:g≠i):∀(vs:List Value) (k:Nat) {w:World},w.heap[i]?=some o→(w.setCells g k vs).heap[i]?=some o
 | [],_,_,h=>h
 | v :: r,k,_,h=>blk_many hne r (k+1) (blk_other h hne k v)
theorem zeroInt (w:World):(zeroValue 3).run Tryz.prog w=.ok (.int .i64 0) w:=by kernel_rfl
theorem run_clr (w:World) (ty:TypeId) (g k n cap:Nat) {B N C:Nat} {ts:List Int} (h:OI w B (.slice (some ⟨g,0,none⟩) N C) ts) (hn:0<n) (hk:k+n≤ts.length):(Builtin.clear_ #[54] ty #[.slice (some ⟨g,k,none⟩) n cap]).run Tryz.prog w=.ok (.tuple #[]) (w.setCells g k (List.replicate n (.int .i64 0))) :=
 Lib.run_clear_slice w 54 3 ty (.int .i64 0) Tryz.underlying54 zeroInt rfl rfl g k n cap hn (fun j hj=>by
  obtain⟨z,hz⟩:∃z,ts[k+j]?=some z:=⟨ts[k+j]'(by omega),by simp⟩
  rw[h.cell hz];rfl) (fun j hj=>h.froz (k+j))
theorem start_false (f:FC) (nR nP:Nat) (w:World) (h1:f.d.regs=nR) (h3:f.d.params=nP) (hrest:f.d.rest=false) (hR1:nR≤250) (hP:nP+0≤nR) :
  Calls Tryz.prog 35 #[PV f] w fun e w'=>(∃tv',e=.returned (.agg #[.bool false,tv',.slice none 0 0])∧OI w' w.heap.size tv' (startT nP nR false))∧Below w.heap.size w w':=by
 obtain⟨d,au,cu,ad,cd,ai,ci,an,cn⟩:=f
 obtain⟨name,line,params,rest,regs,ups,consts,ins,named⟩:=d
 dsimp only at h1 h3 hrest
 subst h1 h3 hrest
 have hmI:=fun W=>make_int nR (by omega) W
 obtain⟨W2,hW2⟩:∃W2,((w.alloc (.cells #[.string name,.int .i64 line,.int .i64 (nP:Int),.bool false,.int .i64 (nR:Int),.slice au ups.length cu,.slice ad consts.length cd,.slice ai ins.length ci,.slice an named.length cn] 53)).alloc (.cells #[.bool false,.slice none 0 0,.slice none 0 0] 118)).alloc (.cells (Array.replicate nR (Value.int .i64 0)) 3)=W2:=⟨_,rfl⟩
 have HB0:Hid (W2.heap[w.heap.size]?=some (.cells #[.string name,.int .i64 line,.int .i64 (nP:Int),.bool false,.int .i64 (nR:Int),.slice au ups.length cu,.slice ad consts.length cd,.slice ai ins.length ci,.slice an named.length cn] 53)):=by show _=_;rw[←hW2];exact blk_old (blk_old (blk_new _ _) _) _
 have p2:W2.cell? ⟨w.heap.size,2,none⟩=some (.int .i64 (nP:Int)):=by rw[blk_cell HB0.out];rfl
 have HT6:Hid (TyAt W2 (w.heap.size+1+1) nR (List.replicate nR 0)):=ty_made nR (by rw[←hW2,List.toArray_replicate];exact blk_newn (by simp) _)
 have HSL:Hid (W2.heap[w.heap.size+1]?=some (.cells #[.bool false,.slice none 0 0,.slice none 0 0] 118)):=by show _=_;rw[←hW2];exact blk_old (blk_newn (by simp) _) _
 have HBW:Hid (Below w.heap.size w W2):=by show Below _ _ _;rw[←hW2];exact bw3 _ _ _ _
 go_enter Tryz.func35,Tryz.ntmps35
 go_wp2_with fail
 clear hmI hW2 p2
 go_loopw [10] (fun r wr=>∃m:Nat,m≤nP∧r=.int .i64 m∧Hid (But (w.heap.size+1+1) W2 wr)∧Hid (TyAt wr (w.heap.size+1+1) nR (List.replicate m 1++List.replicate (nR-m) 0))) (fun r _=>nP-(intOf r).toNat)
 case atStart =>
  exact⟨0,Nat.zero_le _,rfl,But.of_below (Below.refl _ _),by simpa using HT6⟩
 case round =>
  obtain⟨m,hm,rfl,HBT,HT⟩:=hrel
  have hTl:(List.replicate m (1:Int)++List.replicate (nR-m) 0).length=nR:=by simp;omega
  have P2:Hid (wr.heap[w.heap.size]?=some (.cells #[.string name,.int .i64 line,.int .i64 (nP:Int),.bool false,.int .i64 (nR:Int),.slice au ups.length cu,.slice ad consts.length cd,.slice ai ins.length ci,.slice an named.length cn] 53)):=(HBT.out.block _ (blk_lt HB0.out) (by omega)).trans HB0.out
  have j2:wr.cell? ⟨w.heap.size,2,none⟩=some (.int .i64 (nP:Int)):=by rw[blk_cell P2.out];rfl
  have j3:wr.cell? ⟨w.heap.size,3,none⟩=some (.bool false):=by rw[blk_cell P2.out];rfl
  by_cases k1:m<nP
  ·have hmR:m<nR:=by omega
   have hcell:=HT.out.cell (i:=m) (by omega)
   have hfz:=HT.out.froz m
   have hlt:=HT.out.lt
   have HT2:Hid (TyAt (wr.setCell ⟨w.heap.size+1+1,m,none⟩ (.int .i64 1)) (w.heap.size+1+1) nR (List.replicate (m+1) 1++List.replicate (nR-(m+1)) 0)):=by show TyAt _ _ _ _;rw[←ones_set m nR hmR];exact HT.out.set m 1
   have HB6:Hid (But (w.heap.size+1+1) W2 (wr.setCell ⟨w.heap.size+1+1,m,none⟩ (.int .i64 1))):=HBT.out.set m _
   clear HT HBT
   go_wp2_with fail
   go_roundw
   case rel=>exact⟨m+1,by omega,by go_num,HB6,HT2⟩
   case measure=>simp[intOf];omega
  ·have hml:m=nP:=by omega
   subst hml
   have HT2:Hid (TyAt wr (w.heap.size+1+1) nR (startT m nR false)):=HT.out
   have HB6:Hid (But (w.heap.size+1+1) W2 wr):=HBT.out
   clear HT HBT
   have HS5:Hid (wr.heap[w.heap.size+1]?=some (.cells #[.bool false,.slice none 0 0,.slice none 0 0] 118)):=(HB6.out.block _ (blk_lt HSL.out) (by omega)).trans HSL.out
   have b0:wr.cell? ⟨w.heap.size+1,0,none⟩=some (.bool false):=by rw[blk_cell HS5.out];rfl
   have b1:wr.cell? ⟨w.heap.size+1,1,none⟩=some (.slice none 0 0):=by rw[blk_cell HS5.out];rfl
   have b2:wr.cell? ⟨w.heap.size+1,2,none⟩=some (.slice none 0 0):=by rw[blk_cell HS5.out];rfl
   have fz:=blk_frozen HS5.out
   have h9:=HT2.out.own (B:=w.heap.size) (by omega) (by omega)
   rw[startT_len _ _ _ (by omega)]at h9
   have HO:Hid (OI wr w.heap.size (.slice (some ⟨w.heap.size+1+1,0,none⟩) nR nR) (startT m nR false)):=h9
   have HB9:Hid (Below w.heap.size w wr):=But.below HBW.out HB6.out (by omega) HBW.out.size
   clear h9 HT2 HB6 HS5 P2
   go_wp2_with fail
   refine bodyPost_ret (v:=.agg #[.bool false,.slice (some ⟨w.heap.size+1+1,0,none⟩) nR nR,.slice none 0 0]) (by simp[results,Tryz.results35,go_sem,b0,b1,b2]) rfl ⟨⟨_,rfl,?_⟩,?_⟩
   ·have q:(Value.slice (some ⟨w.heap.size+1+1,0,none⟩) nR nR).ownBlock≠some (w.heap.size+1):=fun e=>by
     have e':some (w.heap.size+1+1)=some (w.heap.size+1):=e
     injection e' with e';omega
    exact ORow.set_own (ORow.set_own (ORow.set_own HO.out q _ _) q _ _) q _ _
   ·exact ButL.nil ((((ButL.of_below HB9.out).setn (by omega) _ _).setn (by omega) _ _).setn (by omega) _ _)
theorem start_true (f:FC) (nR nP:Nat) (w:World) (h1:f.d.regs=nR) (h3:f.d.params=nP) (hrest:f.d.rest=true) (hR1:nR≤250) (hP:nP+1≤nR) :
  Calls Tryz.prog 35 #[PV f] w fun e w'=>(∃tv',e=.returned (.agg #[.bool false,tv',.slice none 0 0])∧OI w' w.heap.size tv' (startT nP nR true))∧Below w.heap.size w w':=by
 obtain⟨d,au,cu,ad,cd,ai,ci,an,cn⟩:=f
 obtain⟨name,line,params,rest,regs,ups,consts,ins,named⟩:=d
 dsimp only at h1 h3 hrest
 subst h1 h3 hrest
 have hmI:=fun W=>make_int nR (by omega) W
 obtain⟨W2,hW2⟩:∃W2,((w.alloc (.cells #[.string name,.int .i64 line,.int .i64 (nP:Int),.bool true,.int .i64 (nR:Int),.slice au ups.length cu,.slice ad consts.length cd,.slice ai ins.length ci,.slice an named.length cn] 53)).alloc (.cells #[.bool false,.slice none 0 0,.slice none 0 0] 118)).alloc (.cells (Array.replicate nR (Value.int .i64 0)) 3)=W2:=⟨_,rfl⟩
 have HB0:Hid (W2.heap[w.heap.size]?=some (.cells #[.string name,.int .i64 line,.int .i64 (nP:Int),.bool true,.int .i64 (nR:Int),.slice au ups.length cu,.slice ad consts.length cd,.slice ai ins.length ci,.slice an named.length cn] 53)):=by show _=_;rw[←hW2];exact blk_old (blk_old (blk_new _ _) _) _
 have p2:W2.cell? ⟨w.heap.size,2,none⟩=some (.int .i64 (nP:Int)):=by rw[blk_cell HB0.out];rfl
 have HT6:Hid (TyAt W2 (w.heap.size+1+1) nR (List.replicate nR 0)):=ty_made nR (by rw[←hW2,List.toArray_replicate];exact blk_newn (by simp) _)
 have HSL:Hid (W2.heap[w.heap.size+1]?=some (.cells #[.bool false,.slice none 0 0,.slice none 0 0] 118)):=by show _=_;rw[←hW2];exact blk_old (blk_newn (by simp) _) _
 have HBW:Hid (Below w.heap.size w W2):=by show Below _ _ _;rw[←hW2];exact bw3 _ _ _ _
 go_enter Tryz.func35,Tryz.ntmps35
 go_wp2_with fail
 clear hmI hW2 p2
 go_loopw [10] (fun r wr=>∃m:Nat,m≤nP∧r=.int .i64 m∧Hid (But (w.heap.size+1+1) W2 wr)∧Hid (TyAt wr (w.heap.size+1+1) nR (List.replicate m 1++List.replicate (nR-m) 0))) (fun r _=>nP-(intOf r).toNat)
 case atStart =>
  exact⟨0,Nat.zero_le _,rfl,But.of_below (Below.refl _ _),by simpa using HT6⟩
 case round =>
  obtain⟨m,hm,rfl,HBT,HT⟩:=hrel
  have hTl:(List.replicate m (1:Int)++List.replicate (nR-m) 0).length=nR:=by simp;omega
  have P2:Hid (wr.heap[w.heap.size]?=some (.cells #[.string name,.int .i64 line,.int .i64 (nP:Int),.bool true,.int .i64 (nR:Int),.slice au ups.length cu,.slice ad consts.length cd,.slice ai ins.length ci,.slice an named.length cn] 53)):=(HBT.out.block _ (blk_lt HB0.out) (by omega)).trans HB0.out
  have j2:wr.cell? ⟨w.heap.size,2,none⟩=some (.int .i64 (nP:Int)):=by rw[blk_cell P2.out];rfl
  have j3:wr.cell? ⟨w.heap.size,3,none⟩=some (.bool true):=by rw[blk_cell P2.out];rfl
  by_cases k1:m<nP
  ·have hmR:m<nR:=by omega
   have hcell:=HT.out.cell (i:=m) (by omega)
   have hfz:=HT.out.froz m
   have hlt:=HT.out.lt
   have HT2:Hid (TyAt (wr.setCell ⟨w.heap.size+1+1,m,none⟩ (.int .i64 1)) (w.heap.size+1+1) nR (List.replicate (m+1) 1++List.replicate (nR-(m+1)) 0)):=by show TyAt _ _ _ _;rw[←ones_set m nR hmR];exact HT.out.set m 1
   have HB6:Hid (But (w.heap.size+1+1) W2 (wr.setCell ⟨w.heap.size+1+1,m,none⟩ (.int .i64 1))):=HBT.out.set m _
   clear HT HBT
   go_wp2_with fail
   go_roundw
   case rel=>exact⟨m+1,by omega,by go_num,HB6,HT2⟩
   case measure=>simp[intOf];omega
  ·have hml:m=nP:=by omega
   subst hml
   have hmR:m<nR:=by omega
   have hcell:=HT.out.cell (i:=m) (by omega)
   have hfz:=HT.out.froz m
   have hlt:=HT.out.lt
   have HT2:Hid (TyAt (wr.setCell ⟨w.heap.size+1+1,m,none⟩ (.int .i64 3)) (w.heap.size+1+1) nR (startT m nR true)):=HT.out.set m 3
   have HB6:Hid (But (w.heap.size+1+1) W2 (wr.setCell ⟨w.heap.size+1+1,m,none⟩ (.int .i64 3))):=HBT.out.set m _
   clear HT HBT
   obtain⟨w5,hw5⟩:∃w5,wr.setCell ⟨w.heap.size+1+1,m,none⟩ (.int .i64 3)=w5:=⟨_,rfl⟩
   rw[hw5]at HT2 HB6
   have HS5:Hid (w5.heap[w.heap.size+1]?=some (.cells #[.bool false,.slice none 0 0,.slice none 0 0] 118)):=(HB6.out.block _ (blk_lt HSL.out) (by omega)).trans HSL.out
   have b0:w5.cell? ⟨w.heap.size+1,0,none⟩=some (.bool false):=by rw[blk_cell HS5.out];rfl
   have b1:w5.cell? ⟨w.heap.size+1,1,none⟩=some (.slice none 0 0):=by rw[blk_cell HS5.out];rfl
   have b2:w5.cell? ⟨w.heap.size+1,2,none⟩=some (.slice none 0 0):=by rw[blk_cell HS5.out];rfl
   have fz:=blk_frozen HS5.out
   have h9:=HT2.out.own (B:=w.heap.size) (by omega) (by omega)
   rw[startT_len _ _ _ (by omega)]at h9
   have HO:Hid (OI w5 w.heap.size (.slice (some ⟨w.heap.size+1+1,0,none⟩) nR nR) (startT m nR true)):=h9
   have HB9:Hid (Below w.heap.size w w5):=But.below HBW.out HB6.out (by omega) HBW.out.size
   clear h9 HT2 HB6 HS5 P2
   go_wp2_with fail
   refine bodyPost_ret (v:=.agg #[.bool false,.slice (some ⟨w.heap.size+1+1,0,none⟩) nR nR,.slice none 0 0]) (by simp[results,Tryz.results35,go_sem,b0,b1,b2]) rfl ⟨⟨_,rfl,?_⟩,?_⟩
   ·have q:(Value.slice (some ⟨w.heap.size+1+1,0,none⟩) nR nR).ownBlock≠some (w.heap.size+1):=fun e=>by
     have e':some (w.heap.size+1+1)=some (w.heap.size+1):=e
     injection e' with e';omega
    exact ORow.set_own (ORow.set_own (ORow.set_own HO.out q _ _) q _ _) q _ _
   ·exact ButL.nil ((((ButL.of_below HB9.out).setn (by omega) _ _).setn (by omega) _ _).setn (by omega) _ _)
theorem start_any (f:FC) (nR nP:Nat) (w:World) (h1:f.d.regs=nR) (h3:f.d.params=nP) (hR1:nR≤250) (hP:nP+(if f.d.rest=true then 1 else 0)≤nR) :
  Calls Tryz.prog 35 #[PV f] w fun e w'=>(∃tv',e=.returned (.agg #[.bool false,tv',.slice none 0 0])∧OI w' w.heap.size tv' (startT nP nR f.d.rest))∧Below w.heap.size w w':=by
 cases hr:f.d.rest with
 | false=>exact start_false f nR nP w h1 h3 hr hR1 (by simpa [hr] using hP)
 | true=>exact start_true f nR nP w h1 h3 hr hR1 (by simpa [hr] using hP)
theorem caught_any (rb:Bool) (B:Nat) (tv:Value) (ag:Option Addr) (ng cg:Nat) (ts:List Int) (k:Nat) (w:World) (hT:OI w B tv ts) (hk:k+2≤ts.length) (hl:ts.length≤250) :
  Calls Tryz.prog 154 #[.agg #[.bool rb,tv,(.slice ag ng cg)],.int .i64 k] w fun e w'=>(∃tv',e=.returned (.agg #[.bool false,tv',(.slice ag ng cg)])∧OI w' w.heap.size tv' ((ts.take k++[1,1])++List.replicate (ts.length-k-2) 0))∧Below w.heap.size w w':=by
 obtain⟨aT,cT,rfl,hs⟩:=ORow.lies hT (fun y=>intC_len y)
 have HS:Hid (SlA w 1 intC aT ts):=hs
 have HE:Hid (((zer k (ts.length-k) ts).set k 1).set (k+1) 1=(ts.take k++[1,1])++List.replicate (ts.length-k-2) 0):=caught_eq ts k hk
 rw[←HE.out]
 clear HE hs hT
 obtain⟨L,hL⟩:∃L,ts.length-k=L:=⟨_,rfl⟩
 have HL:Hid (k+L=ts.length):=by show k+L=ts.length;omega
 rw[hL]
 have hwr:IntKind.i64.wrap ((k:Int)+1)=(k:Int)+1:=by rw[IntKind.wrap_i64];omega
 go_enter Tryz.func154,Tryz.ntmps154
 go_wp2_with fail
 refine (clone_int aT ts.length cT ts _ rfl (HS.out.later (bw2 _ _ _)) (by omega)).mono ?_
 rintro e w1 ⟨⟨sv,rfl,ho⟩,hx⟩
 have ho':OI w1 w.heap.size sv ts:=ORow.mono ho (by simp;omega)
 have hg0:∀g,sv.ownBlock=some g→w.heap.size+2≤g:=(fun g e=>by have:=(ho.own_lt e).1;simp at this;omega)
 obtain⟨g,cp,rfl⟩:=ho'.open' (by omega)
 have hgg:=hg0 g rfl
 have HB1:Hid (Below w.heap.size w w1):=(bw2 _ _ _).trans (hx.mono (by simp;omega))
 have hA:w1.heap[w.heap.size]?=some (.cells #[.bool rb,.slice aT ts.length cT,(.slice ag ng cg)] 118):=blk_later hx (blk_old (blk_new _ _) _)
 have hSl:w1.heap[w.heap.size+1]?=some (.cells #[.bool false,.slice none 0 0,.slice none 0 0] 118):=blk_later hx (blk_newn (by simp) _)
 obtain⟨W2,hW2⟩:∃W2,w1.setCells g k (List.replicate L (.int .i64 0))=W2:=⟨_,rfl⟩
 have hclr:∀ty,(Builtin.clear_ #[54] ty #[.slice (some ⟨g,k,none⟩) L (cp-k)]).run Tryz.prog w1=.ok (.tuple #[]) W2:=(fun ty=>by rw[←hW2];exact run_clr w1 ty g k L (cp-k) ho' (by have:=HL.out;omega) (by have:=HL.out;omega))
 have ho2:=OI.zero L k ho' (by have:=HL.out;omega)
 have hb2:=ButL.zero (S:=[]) (.inr (show w.heap.size≤g by omega)) L k (ButL.of_below HB1.out)
 have hA2:=blk_many (show g≠w.heap.size by omega) (List.replicate L (.int .i64 0)) k hA
 have hS2:=blk_many (show g≠w.heap.size+1 by omega) (List.replicate L (.int .i64 0)) k hSl
 rw[hW2]at ho2 hb2 hA2 hS2
 clear hW2 hA hSl ho ho' hx hg0
 have hcap:ts.length≤cp:=OI.cap ho2
 have hne:¬cp=k:=by omega
 have hLk:ts.length-k=L:=hL
 obtain⟨y0,hy0⟩:∃y,(zer k L ts)[k]?=some y:=⟨(zer k L ts)[k]'(by rw[zer_len];omega),by simp⟩
 obtain⟨y1,hy1⟩:∃y,(zer k L ts)[k+1]?=some y:=⟨(zer k L ts)[k+1]'(by rw[zer_len];omega),by simp⟩
 have ck:=ho2.cell hy0
 have z0:=ho2.froz k
 have ho3:=ho2.set k 1 (by rw[zer_len];omega)
 have hA3:=blk_other hA2 (show g≠w.heap.size by omega) k (.int .i64 1)
 have hS3:=blk_other hS2 (show g≠w.heap.size+1 by omega) k (.int .i64 1)
 obtain⟨W3,hW3⟩:∃W3,W2.setCell ⟨g,k,none⟩ (.int .i64 1)=W3:=⟨_,rfl⟩
 rw[hW3]at ho3 hA3 hS3
 have ck1:=ho3.cell (i:=k+1) (z:=y1) (by rw[List.getElem?_set,if_neg (by omega)];exact hy1)
 have z1:=ho3.froz (k+1)
 have ho4:=ho3.set (k+1) 1 (by simp[zer_len];omega)
 have hA4:=blk_other hA3 (show g≠w.heap.size by omega) (k+1) (.int .i64 1)
 have hS4:=blk_other hS3 (show g≠w.heap.size+1 by omega) (k+1) (.int .i64 1)
 have hb3:ButL [] w W3:=by rw[←hW3];exact hb2.seto (.inr (by omega)) _ _
 obtain⟨W4,hW4⟩:∃W4,W3.setCell ⟨g,k+1,none⟩ (.int .i64 1)=W4:=⟨_,rfl⟩
 have hb4:ButL [] w W4:=by rw[←hW4];exact hb3.seto (.inr (by omega)) _ _
 rw[hW4]at ho4 hA4 hS4
 have a2:W4.cell? ⟨w.heap.size,2,none⟩=some (.slice ag ng cg):=by rw[blk_cell hA4];rfl
 have b0:W4.cell? ⟨w.heap.size+1,0,none⟩=some (.bool false):=by rw[blk_cell hS4];rfl
 have b1:W4.cell? ⟨w.heap.size+1,1,none⟩=some (.slice none 0 0):=by rw[blk_cell hS4];rfl
 have b2:W4.cell? ⟨w.heap.size+1,2,none⟩=some (.slice none 0 0):=by rw[blk_cell hS4];rfl
 have f0:=blk_frozen hS4
 have HO4:Hid (OI W4 w.heap.size (.slice (some ⟨g,0,none⟩) ts.length cp) (((zer k L ts).set k 1).set (k+1) 1)):=ho4
 have HB4:Hid (ButL [] w W4):=hb4
 clear ho2 ho3 ho4 hA2 hA3 hA4 hS2 hS3 hS4 hb2 hb3 hb4 hy0 hy1 HS
 go_wp2_with fail
 refine bodyPost_ret (v:=.agg #[.bool false,.slice (some ⟨g,0,none⟩) ts.length cp,.slice ag ng cg]) (by simp[results,Tryz.results154,go_sem,b0,b1,b2]) rfl ⟨⟨_,rfl,?_⟩,?_⟩
 ·have q:(Value.slice (some ⟨g,0,none⟩) ts.length cp).ownBlock≠some (w.heap.size+1):=fun e=>by
   have e':some g=some (w.heap.size+1):=e
   injection e' with e';omega
  exact ORow.set_own (ORow.set_own (ORow.set_own HO4.out q _ _) q _ _) q _ _
 ·exact ButL.nil (((HB4.out.setn (by omega) _ _).setn (by omega) _ _).setn (by omega) _ _)
end Go.Proofs.YtjglgbepobmjhaaGreatDoor
