import Derived.Test.YtjglgbepobmjhaaGreatDoorP18
import Derived.Test.YtjglgbepobmjhaaGreatDoorP11
import Derived.Deep.RegionLaw
import Derived.BigRegion
import Derived.BigQuiet
import Derived.Deep.QuietTactic
set_option linter.unusedVariables false
set_option linter.unusedSimpArgs false
set_option maxRecDepth 20000
set_option maxHeartbeats 8000000
namespace Go.Proofs.YtjglgbepobmjhaaGreatDoor
open Go.RowKit
theorem prMany_at {l:List Int} {x m:Nat} {t:Int} {s:RdS} {R:Option RdS} (ht:l[m]?=some t) (h:prMany (x+m) (l.drop m) s=R):(if s.ts.getD (x+m) 0=t then prMany (x+(m+1)) (l.drop (m+1)) ⟨s.ts,s.taken,s.stay++[x+m]⟩ else none)=R:=by
 obtain⟨hlt,he⟩:=List.getElem?_eq_some_iff.1 ht
 rw[List.drop_eq_getElem_cons hlt,he]at h
 exact h
theorem FrA.back {W0 W1:World} {S S1:List Nat} {B gF:Nat} {tv:Value} {e:Ending} {w':World} {o:Option RdS} (h:FrA W1 S1 B gF tv e w' o) (hB:B≤W0.heap.size) (hb:ButL S W0 W1) (hS:∀g∈S1,g∈S∨W0.heap.size≤g):FrA W0 S B gF tv e w' o:=by
 cases o with
 | none=>exact⟨h.1,hb.then h.2 hS⟩
 | some s=>obtain⟨h1,sv,kv,h2⟩:=h;exact⟨h1,sv,kv,h2.back hB hb hS⟩
abbrev FdO (r:Nat) (x:Int):Obj:=.cells #[.int .i64 r,.int .i64 x] 233
theorem rdfield_op (W0:World) (S:List Nat) (B gF:Nat) (tv:Value) (w:World) (sv kv:Value) (s:RdS) (r:Nat) (x:Int) (hr:r=12∨r=13) (h:FrV W0 S B gF tv w sv kv s) (hok:PrOkF s.ts.length r x) (hl:s.ts.length≤250) (hs:s.stay.length≤900) (hk:s.taken.length≤900) :
  Calls Tryz.prog 148 #[.pointer (some ⟨gF,0,none⟩),.agg #[.int .i64 r,.int .i64 x]] w fun e w'=>FrA W0 S B gF tv e w' (prStep r x s):=by
 have HF:Hid (FrV W0 S B gF tv w sv kv s):=h
 unfold PrOkF at hok
 rw[if_pos hr]at hok
 obtain⟨x1,x2⟩:=hok
 have HX:Hid (x<s.ts.length∧-1-x<s.ts.length):=⟨x1,x2⟩
 obtain⟨want,hw⟩:∃want,askedV r=[want]:=by rcases hr with rfl | rfl<;>exact⟨_,rfl⟩
 have HP:Hid (prStep r x s=prOp x want s):=by show prStep _ _ _=_;unfold prStep;rw[if_pos hr,hw];rfl
 have HW:Hid (askedV r=[want]):=hw
 clear h x1 x2 hw
 rw[HP.out]
 have hr24:r<24:=by omega
 obtain⟨t12,t13⟩:((r:Int) == 12)=decide (r=12)∧((r:Int) == 13)=decide (r=13):=by
  constructor<;>(rw[Bool.eq_iff_iff];simp;omega)
 rcases hr with e | e
 ·have t12':((r:Int) == 12)=true:=by rw[t12];simpa using e
  clear t12 t13 e
  go_enter Tryz.func148,Tryz.ntmps148
  go_wp2_with (go_at_call 214;refine (asked_any _ _ hr24).mono ?_;rw[HW.out];rintro e w1 ⟨⟨a,c,rfl,hsl,_⟩,hb⟩;obtain⟨b,off,rfl,hbl,hc⟩:=hsl 0 want rfl;have c0:w1.cell? ⟨b,off,none⟩=some (.int .i64 want):=(by have:=hc 0 _ rfl;simpa using this);have HF1:Hid _:=(HF.out.later (bw1 _ _)).later hb;have n1:w1.cell? ⟨w.heap.size,1,none⟩=some (.int .i64 x):=(by rw[blk_cell (blk_later hb (blk_new _ _))];rfl);have n0:=(show w1.cell? ⟨w.heap.size,0,none⟩=some _ from by rw[blk_cell (blk_later hb (blk_new _ _))];rfl);clear hb hsl hc hbl)
  cases hp:prOp x want s with
  | none =>
   go_region_with (go_at_call 215;refine (rdop_any W0 S B gF tv _ sv kv s x want (HF1.out.later (Below.refl _ _).drew) HX.out.1 HX.out.2 hl (by omega) (by omega)).mono ?_;rw[hp];rintro e w2 ⟨rfl,hb2⟩)
   all_goals
    go_wp2_with fail
    go_ret
    show FrA W0 S B gF tv _ _ (prOp x want s)
    rw[hp]
    exact⟨rfl,hb2⟩
  | some s' =>
   go_region_with (go_at_call 215;refine (rdop_any W0 S B gF tv _ sv kv s x want (HF1.out.later (Below.refl _ _).drew) HX.out.1 HX.out.2 hl (by omega) (by omega)).mono ?_;rw[hp];rintro e w2 ⟨rfl,hq⟩;have HQ:Hid _:=hq;clear hq)
   all_goals
    go_wp2_with fail
    go_ret
    show FrA W0 S B gF tv _ _ (prOp x want s)
    rw[hp]
    exact⟨rfl,HQ.out⟩
 ·have t12':((r:Int) == 12)=false:=by rw[t12,e];rfl
  have t13':((r:Int) == 13)=true:=by rw[t13];simpa using e
  clear t12 t13 e
  go_enter Tryz.func148,Tryz.ntmps148
  go_wp2_with (go_at_call 214;refine (asked_any _ _ hr24).mono ?_;rw[HW.out];rintro e w1 ⟨⟨a,c,rfl,hsl,_⟩,hb⟩;obtain⟨b,off,rfl,hbl,hc⟩:=hsl 0 want rfl;have c0:w1.cell? ⟨b,off,none⟩=some (.int .i64 want):=(by have:=hc 0 _ rfl;simpa using this);have HF1:Hid _:=(HF.out.later (bw1 _ _)).later hb;have n1:w1.cell? ⟨w.heap.size,1,none⟩=some (.int .i64 x):=(by rw[blk_cell (blk_later hb (blk_new _ _))];rfl);have n0:=(show w1.cell? ⟨w.heap.size,0,none⟩=some _ from by rw[blk_cell (blk_later hb (blk_new _ _))];rfl);clear hb hsl hc hbl)
  cases hp:prOp x want s with
  | none =>
   go_region_with (go_at_call 215;refine (rdop_any W0 S B gF tv _ sv kv s x want (HF1.out.later (Below.refl _ _).drew) HX.out.1 HX.out.2 hl (by omega) (by omega)).mono ?_;rw[hp];rintro e w2 ⟨rfl,hb2⟩)
   all_goals
    go_wp2_with fail
    go_ret
    show FrA W0 S B gF tv _ _ (prOp x want s)
    rw[hp]
    exact⟨rfl,hb2⟩
  | some s' =>
   go_region_with (go_at_call 215;refine (rdop_any W0 S B gF tv _ sv kv s x want (HF1.out.later (Below.refl _ _).drew) HX.out.1 HX.out.2 hl (by omega) (by omega)).mono ?_;rw[hp];rintro e w2 ⟨rfl,hq⟩;have HQ:Hid _:=hq;clear hq)
   all_goals
    go_wp2_with fail
    go_ret
    show FrA W0 S B gF tv _ _ (prOp x want s)
    rw[hp]
    exact⟨rfl,HQ.out⟩
theorem ButL.cell {S:List Nat} {w w':World} (h:ButL S w w') {b off:Nat} {v:Value} (hb:b∉S) (hc:w.cell? ⟨b,off,none⟩=some v):w'.cell? ⟨b,off,none⟩=some v:=by
 have hlt:b<w.heap.size:=by
  apply Classical.byContradiction
  intro hq
  unfold World.cell? at hc
  rw[Array.getElem?_eq_none (by simpa using hq)]at hc
  cases hc
 unfold World.cell? at hc ⊢
 rw[h.block b hlt hb]
 exact hc
theorem rdfield_reg (W0:World) (S:List Nat) (B gF:Nat) (tv:Value) (w:World) (sv kv:Value) (s:RdS) (r:Nat) (x:Int) (hr:r<24) (h12:r≠12) (h13:r≠13) (h18:r≠18) (h:FrV W0 S B gF tv w sv kv s) (hok:PrOkF s.ts.length r x) (hl:s.ts.length≤250) (hs:s.stay.length≤900) (hk:s.taken.length≤900) :
  Calls Tryz.prog 148 #[.pointer (some ⟨gF,0,none⟩),.agg #[.int .i64 r,.int .i64 x]] w fun e w'=>FrA W0 S B gF tv e w' (prStep r x s):=by
 have HF:Hid (FrV W0 S B gF tv w sv kv s):=h
 have HK:Hid (PrOkF s.ts.length r x):=hok
 have t12:((r:Int) == 12)=false:=by simpa using (by omega:¬(r:Int)=12)
 have t13:((r:Int) == 13)=false:=by simpa using (by omega:¬(r:Int)=13)
 have t18:((r:Int) == 18)=false:=by simpa using (by omega:¬(r:Int)=18)
 obtain⟨L,hL⟩:∃L,askedV r=L:=⟨_,rfl⟩
 have HLL:Hid (askedV r=L):=hL
 obtain⟨X,hX⟩:∃X,x.toNat=X:=⟨_,rfl⟩
 obtain⟨R,hR⟩:∃R,prMany X L s=R:=⟨_,rfl⟩
 have HP:Hid (prStep r x s=R):=by show prStep _ _ _=_;unfold prStep prTk;rw[if_neg (by omega),if_neg h18,hL,hX,←hR]
 have HR:Hid (prMany X L s=R):=hR
 rw[HP.out]
 have HL3:Hid (L.length≤3):=by show _≤_;rw[←hL];exact asked_len r
 have HXx:Hid (L≠[]→x=X∧X+L.length≤s.ts.length):=by
  intro hne
  have:=HK.out
  unfold PrOkF at this
  rw[if_neg (by omega),hL]at this
  have:=this hne
  omega
 have hlt:=blk_lt h.blk
 have HOWN:Hid (∀g∈gF :: (tv.ownBlock.toList++sv.ownBlock.toList++kv.ownBlock.toList),(g∈S∨W0.heap.size≤g)∧g<w.heap.size):=h.own
 have HBASE:Hid (B≤W0.heap.size):=h.base
 clear h hok hR hL HK h12 h13 h18 hX HP
 go_enter Tryz.func148,Tryz.ntmps148
 go_wp2_with (go_at_call 214;refine (asked_any _ _ hr).mono ?_;rw[HLL.out];rintro e w1 ⟨⟨a,c,rfl,hsl,hfr⟩,hb⟩;have HF1:Hid _:=((HF.out.later (bw1 _ _)).later hb);have X1:Hid (w1.heap[w.heap.size]?=some (FdO r x)):=blk_later hb (blk_new _ _);have n0:w1.cell? ⟨w.heap.size,0,none⟩=some (.int .i64 r):=(by rw[blk_cell X1.out];rfl);have HSL:Hid (SlA w1 1 intC a L):=hsl;have HFR:Hid (∀b off,a=some ⟨b,off,none⟩→w.heap.size<b):=(by intro b off e;rcases hfr with q | q;rw[e]at q;cases q;rw[e]at q;cases q;simp);have HB1:Hid (Below w.heap.size w w1):=(bw1 _ _).trans (hb.mono (by simp));clear hb hsl hfr)
 have HA:Hid (FrV w1 (gF :: (tv.ownBlock.toList++sv.ownBlock.toList++kv.ownBlock.toList)) B gF tv w1 sv kv s):=HF1.out.anew
 clear n0
 go_loopw [38] (fun i wr=>∃(m:Nat) (sv' kv':Value) (s':RdS),m≤L.length∧i=.int .i64 m∧Hid (FrV w1 (gF :: (tv.ownBlock.toList++sv.ownBlock.toList++kv.ownBlock.toList)) B gF tv wr sv' kv' s')∧Hid (prMany (X+m) (L.drop m) s'=R)∧Hid (s'.ts=s.ts∧s'.stay.length=s.stay.length+m)) (fun i _=>L.length-(intOf i).toNat)
 case atStart=>exact⟨0,_,_,_,Nat.zero_le _,rfl,HA,HR,⟨rfl,rfl⟩⟩
 case round =>
  clear HA HR
  obtain⟨m,sv',kv',s',hm,rfl,HI,HR,HT⟩:=hrel
  have hNF:w.heap.size∉gF :: (tv.ownBlock.toList++sv.ownBlock.toList++kv.ownBlock.toList):=fun hq=>by have:=(HOWN.out _ hq).2;omega
  have X2:=HI.out.but.blk X1.out hNF
  have n0:wr.cell? ⟨w.heap.size,1,none⟩=some (.int .i64 x):=by rw[blk_cell X2];rfl
  by_cases k1:m<L.length
  ·obtain⟨t,ht⟩:∃t,L[m]?=some t:=⟨L[m],by simp⟩
   obtain⟨rfl,hXl⟩:=HXx.out (by rintro rfl;simp at k1)
   obtain⟨b,off,rfl,hbl,hc⟩:=HSL.out m t ht
   have hbS:b∉gF :: (tv.ownBlock.toList++sv.ownBlock.toList++kv.ownBlock.toList):=fun hq=>by have:=(HOWN.out _ hq).2;have:=HFR.out b off rfl;omega
   have c0:wr.cell? ⟨b,off+m,none⟩=some (.int .i64 t):=HI.out.but.cell hbS (by have:=hc 0 _ rfl;simpa using this)
   have HRm:Hid _:=prMany_at ht HR.out
   have htl:s'.ts.length=s.ts.length:=by rw[HT.out.1]
   obtain⟨g,cap,rfl⟩:=HI.out.ty.open' (by omega)
   obtain⟨z,hz⟩:∃z,s'.ts[X+m]?=some z:=⟨s'.ts[X+m]'(by omega),by simp⟩
   have cz:=HI.out.ty.cell hz
   have HZ:Hid (s'.ts.getD (X+m) 0=z):=by show _=_;rw[List.getD_eq_getElem?_getD,hz];rfl
   obtain⟨aS,cS,rfl⟩:=HI.out.os.val
   rw[nz_len]at HI
   obtain⟨f0,f1,f2⟩:=HI.out.cells
   have hbd:X+m<s'.ts.length:=by omega
   clear hc ht hz X2 HR
   by_cases hzt:z=t
   ·have t9:(z != t)=false:=by simpa using hzt
    have HRn:Hid (prMany (X+(m+1)) (L.drop (m+1)) ⟨s'.ts,s'.taken,s'.stay++[X+m]⟩=R):=by show _=_;have:=HRm.out;rw[HZ.out,if_pos hzt]at this;exact this
    have HTn:Hid ((⟨s'.ts,s'.taken,s'.stay++[X+m]⟩:RdS).ts=s.ts∧(⟨s'.ts,s'.taken,s'.stay++[X+m]⟩:RdS).stay.length=s.stay.length+(m+1)):=⟨HT.out.1,by have:=HT.out.2;simp;omega⟩
    clear HRm
    go_wp2_with fail
    go_quiet (fail)
    have HE:Hid _:=HI.out.drewN nq
    have nE:(wr.drewN nq).cell? ⟨w.heap.size,1,none⟩=some (.int .i64 (X:Int)):=n0
    obtain⟨wq,hwq⟩:∃wq,wr.drewN nq=wq:=⟨_,rfl⟩
    rw[hwq]at HE nE ⊢
    clear HI f0 f1 f2 c0 cz n0 hwq
    obtain⟨f0,f1,f2⟩:=HE.out.cells
    obtain⟨g',cap',w3,hr3,hbk,hF3⟩:=HE.out.drew.see (X+m) (by have:=HT.out.2;have:=HL3.out;omega)
    have HF3:Hid _:=hF3
    have k2:w3.cell? ⟨gF,1,none⟩=some (.slice aS s'.stay.length cS):=by rw[blk_cell hbk];rfl
    have kz:=blk_frozen hbk
    push_cast at hr3
    have hr4:(Builtin.append_ #[54,54] 54 #[.slice aS s'.stay.length cS,.slice (some ⟨wq.heap.size,0,none⟩) 1 1]).run Tryz.prog (wq.alloc (.cells #[.int .i64 ((X:Int)+(m:Int))] 3)).drew=.ok (.slice (some ⟨g',0,none⟩) (s'.stay.length+1) cap') w3:=hr3
    have HR4:Hid _:=hr4
    have f1a:(wq.alloc (.cells #[.int .i64 ((X:Int)+(m:Int))] 3)).cell? ⟨gF,1,none⟩=some (.slice aS s'.stay.length cS):=cell_later (bw1 _ _) f1
    have nEa:(wq.alloc (.cells #[.int .i64 ((X:Int)+(m:Int))] 3)).cell? ⟨w.heap.size,1,none⟩=some (.int .i64 (X:Int)):=cell_later (bw1 _ _) nE
    have hwr:IntKind.i64.wrap ((X:Int)+(m:Int))=(X:Int)+(m:Int):=by rw[IntKind.wrap_i64];omega
    clear hF3 hbk HE hr3 hr4
    go_wp2_with fail
    go_region_law (refine step_append_run rfl _ _ _ rfl _ _ _ _ rfl rfl HR4.out ?_)
    all_goals
     go_wp2_with fail
     go_roundw
     case rel=>exact⟨m+1,_,_,_,by omega,by go_num,HF3,HRn,HTn⟩
     case measure=>simp[intOf];omega
   ·have t9:(z != t)=true:=by simpa using hzt
    have HRn:Hid (R=none):=by show _=_;have:=HRm.out;rw[HZ.out,if_neg hzt]at this;exact this.symm
    clear HRm
    go_wp2_with fail
    go_quiet (fail)
    go_wp2_with fail
    go_ret
    rw[HRn.out]
    exact⟨rfl,(HF1.out.but.then (HI.out.but.drewN nq) (fun q hq=>(HOWN.out q hq).1))⟩
  ·have e:m=L.length:=by omega
   have HRn:Hid (R=some s'):=by show _=_;have:=HR.out;rw[e,List.drop_of_length_le (Nat.le_refl _)]at this;exact this.symm
   go_wp2_with fail
   go_ret
   rw[HRn.out]
   exact⟨rfl,_,_,HI.out.back HBASE.out HF1.out.but (fun q hq=>(HOWN.out q hq).1)⟩
theorem rdfield_whole (W0:World) (S:List Nat) (B gF:Nat) (tv:Value) (w:World) (sv kv:Value) (s:RdS) (r:Nat) (x:Int) (hr:r<24) (h18:r=18) (h:FrV W0 S B gF tv w sv kv s) (hok:PrOkF s.ts.length r x) (hl:s.ts.length≤250) (hs:s.stay.length≤900) (hk:s.taken.length≤900) :
  Calls Tryz.prog 148 #[.pointer (some ⟨gF,0,none⟩),.agg #[.int .i64 r,.int .i64 x]] w fun e w'=>FrA W0 S B gF tv e w' (prStep r x s):=by
 have HF:Hid (FrV W0 S B gF tv w sv kv s):=h
 have t12:((r:Int) == 12)=false:=by subst h18;rfl
 have t13:((r:Int) == 13)=false:=by subst h18;rfl
 have t18:((r:Int) == 18)=true:=by subst h18;rfl
 obtain⟨x0,x1⟩:0≤x∧x+2≤s.ts.length:=by
  have:=hok
  unfold PrOkF at this
  subst h18
  rw[if_neg (by omega)]at this
  exact this (by decide)
 obtain⟨X,rfl⟩:∃X:Nat,x=X:=⟨x.toNat,by omega⟩
 obtain⟨L,hL⟩:∃L,askedV r=L:=⟨_,rfl⟩
 have HLL:Hid (askedV r=L):=hL
 obtain⟨R,hR⟩:∃R,prMany X L ⟨s.ts,s.taken++[X],s.stay⟩=R:=⟨_,rfl⟩
 have HP:Hid (prStep r (X:Int) s=R):=by show prStep _ _ _=_;unfold prStep prTk;rw[if_neg (by omega),if_pos h18,hL,Int.toNat_natCast,←hR]
 have HR:Hid (prMany X L ⟨s.ts,s.taken++[X],s.stay⟩=R):=hR
 rw[HP.out]
 have HL3:Hid (L.length≤3):=by show _≤_;rw[←hL];exact asked_len r
 have HXx:Hid (X+L.length≤s.ts.length):=by show _≤_;rw[←hL];subst h18;show X+2≤_;omega
 have hlt:=blk_lt h.blk
 have HBASE:Hid (B≤W0.heap.size):=h.base
 obtain⟨aK,cK,rfl⟩:=h.ot.val
 rw[nz_len]at HF
 clear h hok hR hL h18 x0 x1 HP
 go_enter Tryz.func148,Tryz.ntmps148
 go_wp2_with (go_at_call 214;refine (asked_any _ _ hr).mono ?_;rw[HLL.out];rintro e w1 ⟨⟨a,c,rfl,hsl,hfr⟩,hb⟩;have HF1:Hid _:=((HF.out.later (bw1 _ _)).later hb);have X1:Hid (w1.heap[w.heap.size]?=some (FdO r (X:Int))):=blk_later hb (blk_new _ _);have n0:w1.cell? ⟨w.heap.size,0,none⟩=some (.int .i64 r):=(by rw[blk_cell X1.out];rfl);have n1:w1.cell? ⟨w.heap.size,1,none⟩=some (.int .i64 (X:Int)):=(by rw[blk_cell X1.out];rfl);have HSL:Hid (SlA w1 1 intC a L):=hsl;have HFR:Hid (∀b off,a=some ⟨b,off,none⟩→w.heap.size<b):=(by intro b off e;rcases hfr with q | q;rw[e]at q;cases q;rw[e]at q;cases q;simp);have HB1:Hid (Below w.heap.size w w1):=(bw1 _ _).trans (hb.mono (by simp));clear hb hsl hfr)
 obtain⟨f0,f1,f2⟩:=HF1.out.cells
 obtain⟨g8,cap8,w8,hr3,hbk,hF3⟩:=HF1.out.anew.drew.take X (by omega)
 have HF8:Hid _:=hF3
 have k2:w8.cell? ⟨gF,2,none⟩=some (.slice aK s.taken.length cK):=by rw[blk_cell hbk];rfl
 have kz:=blk_frozen hbk
 have hr4:(Builtin.append_ #[54,54] 54 #[.slice aK s.taken.length cK,.slice (some ⟨w1.heap.size,0,none⟩) 1 1]).run Tryz.prog (w1.alloc (.cells #[.int .i64 (X:Int)] 3)).drew=.ok (.slice (some ⟨g8,0,none⟩) (s.taken.length+1) cap8) w8:=hr3
 have HR4:Hid _:=hr4
 have f2a:(w1.alloc (.cells #[.int .i64 (X:Int)] 3)).cell? ⟨gF,2,none⟩=some (.slice aK s.taken.length cK):=cell_later (bw1 _ _) f2
 have nEa:(w1.alloc (.cells #[.int .i64 (X:Int)] 3)).cell? ⟨w.heap.size,1,none⟩=some (.int .i64 (X:Int)):=cell_later (bw1 _ _) n1
 have HOWN:Hid (∀g∈(gF :: (tv.ownBlock.toList++sv.ownBlock.toList++(Value.slice aK s.taken.length cK).ownBlock.toList)),(g∈S∨W0.heap.size≤g)∧g<w.heap.size):=HF.out.own
 clear hF3 hbk hr3 hr4
 go_wp2_with fail
 go_region_law (refine step_append_run rfl _ _ _ rfl _ _ _ _ rfl rfl HR4.out ?_)
 all_goals
  go_wp2_with fail
  clear n0 n1 f0 f1 f2 f2a nEa k2 kz HR4
  go_loopw [38] (fun i wr=>∃(m:Nat) (sv' kv':Value) (s':RdS),m≤L.length∧i=.int .i64 m∧Hid (FrV w1 (gF :: (tv.ownBlock.toList++sv.ownBlock.toList++(Value.slice aK s.taken.length cK).ownBlock.toList)) B gF tv wr sv' kv' s')∧Hid (prMany (X+m) (L.drop m) s'=R)∧Hid (s'.ts=s.ts∧s'.stay.length=s.stay.length+m)) (fun i _=>L.length-(intOf i).toNat)
  case atStart=>exact⟨0,_,_,_,Nat.zero_le _,rfl,HF8,HR,⟨rfl,rfl⟩⟩
  case round =>
   clear HF8 HR
   obtain⟨m,sv',kv',s',hm,rfl,HI,HR,HT⟩:=hrel
   have hNF:w.heap.size∉gF :: (tv.ownBlock.toList++sv.ownBlock.toList++(Value.slice aK s.taken.length cK).ownBlock.toList):=fun hq=>by have:=(HOWN.out _ hq).2;omega
   have X2:=HI.out.but.blk X1.out hNF
   have n0:wr.cell? ⟨w.heap.size,1,none⟩=some (.int .i64 (X:Int)):=by rw[blk_cell X2];rfl
   by_cases k1:m<L.length
   ·obtain⟨t,ht⟩:∃t,L[m]?=some t:=⟨L[m],by simp⟩
    have hXl:=HXx.out
    obtain⟨b,off,rfl,hbl,hc⟩:=HSL.out m t ht
    have hbS:b∉gF :: (tv.ownBlock.toList++sv.ownBlock.toList++(Value.slice aK s.taken.length cK).ownBlock.toList):=fun hq=>by have:=(HOWN.out _ hq).2;have:=HFR.out b off rfl;omega
    have c0:wr.cell? ⟨b,off+m,none⟩=some (.int .i64 t):=HI.out.but.cell hbS (by have:=hc 0 _ rfl;simpa using this)
    have HRm:Hid _:=prMany_at ht HR.out
    have htl:s'.ts.length=s.ts.length:=by rw[HT.out.1]
    obtain⟨g,cap,rfl⟩:=HI.out.ty.open' (by omega)
    obtain⟨z,hz⟩:∃z,s'.ts[X+m]?=some z:=⟨s'.ts[X+m]'(by omega),by simp⟩
    have cz:=HI.out.ty.cell hz
    have HZ:Hid (s'.ts.getD (X+m) 0=z):=by show _=_;rw[List.getD_eq_getElem?_getD,hz];rfl
    obtain⟨aS,cS,rfl⟩:=HI.out.os.val
    rw[nz_len]at HI
    obtain⟨f0,f1,f2⟩:=HI.out.cells
    have hbd:X+m<s'.ts.length:=by omega
    clear hc ht hz X2 HR
    by_cases hzt:z=t
    ·have t9:(z != t)=false:=by simpa using hzt
     have HRn:Hid (prMany (X+(m+1)) (L.drop (m+1)) ⟨s'.ts,s'.taken,s'.stay++[X+m]⟩=R):=by show _=_;have:=HRm.out;rw[HZ.out,if_pos hzt]at this;exact this
     have HTn:Hid ((⟨s'.ts,s'.taken,s'.stay++[X+m]⟩:RdS).ts=s.ts∧(⟨s'.ts,s'.taken,s'.stay++[X+m]⟩:RdS).stay.length=s.stay.length+(m+1)):=⟨HT.out.1,by have:=HT.out.2;simp;omega⟩
     clear HRm
     go_wp2_with fail
     go_quiet (fail)
     have HE:Hid _:=HI.out.drewN nq
     have nE:(wr.drewN nq).cell? ⟨w.heap.size,1,none⟩=some (.int .i64 (X:Int)):=n0
     obtain⟨wq,hwq⟩:∃wq,wr.drewN nq=wq:=⟨_,rfl⟩
     rw[hwq]at HE nE ⊢
     clear HI f0 f1 f2 c0 cz n0 hwq
     obtain⟨f0,f1,f2⟩:=HE.out.cells
     obtain⟨g',cap',w3,hr3,hbk,hF3⟩:=HE.out.drew.see (X+m) (by have:=HT.out.2;have:=HL3.out;omega)
     have HF3:Hid _:=hF3
     have k2:w3.cell? ⟨gF,1,none⟩=some (.slice aS s'.stay.length cS):=by rw[blk_cell hbk];rfl
     have kz:=blk_frozen hbk
     push_cast at hr3
     have hr4:(Builtin.append_ #[54,54] 54 #[.slice aS s'.stay.length cS,.slice (some ⟨wq.heap.size,0,none⟩) 1 1]).run Tryz.prog (wq.alloc (.cells #[.int .i64 ((X:Int)+(m:Int))] 3)).drew=.ok (.slice (some ⟨g',0,none⟩) (s'.stay.length+1) cap') w3:=hr3
     have HR4:Hid _:=hr4
     have f1a:(wq.alloc (.cells #[.int .i64 ((X:Int)+(m:Int))] 3)).cell? ⟨gF,1,none⟩=some (.slice aS s'.stay.length cS):=cell_later (bw1 _ _) f1
     have nEa:(wq.alloc (.cells #[.int .i64 ((X:Int)+(m:Int))] 3)).cell? ⟨w.heap.size,1,none⟩=some (.int .i64 (X:Int)):=cell_later (bw1 _ _) nE
     have hwr:IntKind.i64.wrap ((X:Int)+(m:Int))=(X:Int)+(m:Int):=by rw[IntKind.wrap_i64];omega
     clear hF3 hbk HE hr3 hr4
     go_wp2_with fail
     go_region_law (refine step_append_run rfl _ _ _ rfl _ _ _ _ rfl rfl HR4.out ?_)
     all_goals
      go_wp2_with fail
      go_roundw
      case rel=>exact⟨m+1,_,_,_,by omega,by go_num,HF3,HRn,HTn⟩
      case measure=>simp[intOf];omega
    ·have t9:(z != t)=true:=by simpa using hzt
     have HRn:Hid (R=none):=by show _=_;have:=HRm.out;rw[HZ.out,if_neg hzt]at this;exact this.symm
     clear HRm
     go_wp2_with fail
     go_quiet (fail)
     go_wp2_with fail
     go_ret
     rw[HRn.out]
     exact⟨rfl,(HF1.out.but.then (HI.out.but.drewN nq) (fun q hq=>(HOWN.out q hq).1))⟩
   ·have e:m=L.length:=by omega
    have HRn:Hid (R=some s'):=by show _=_;have:=HR.out;rw[e,List.drop_of_length_le (Nat.le_refl _)]at this;exact this.symm
    go_wp2_with fail
    go_ret
    rw[HRn.out]
    exact⟨rfl,_,_,HI.out.back HBASE.out HF1.out.but (fun q hq=>(HOWN.out q hq).1)⟩
theorem rdfield_any (W0:World) (S:List Nat) (B gF:Nat) (tv:Value) (w:World) (sv kv:Value) (s:RdS) (r:Nat) (x:Int) (hr:r<24) (h:FrV W0 S B gF tv w sv kv s) (hok:PrOkF s.ts.length r x) (hl:s.ts.length≤250) (hs:s.stay.length≤900) (hk:s.taken.length≤900) :
  Calls Tryz.prog 148 #[.pointer (some ⟨gF,0,none⟩),.agg #[.int .i64 r,.int .i64 x]] w fun e w'=>FrA W0 S B gF tv e w' (prStep r x s):=by
 by_cases h1:r=12∨r=13
 ·exact rdfield_op W0 S B gF tv w sv kv s r x h1 h hok hl hs hk
 ·by_cases h2:r=18
  ·exact rdfield_whole W0 S B gF tv w sv kv s r x hr h2 h hok hl hs hk
  ·exact rdfield_reg W0 S B gF tv w sv kv s r x hr (by omega) (by omega) h2 h hok hl hs hk
end Go.Proofs.YtjglgbepobmjhaaGreatDoor
