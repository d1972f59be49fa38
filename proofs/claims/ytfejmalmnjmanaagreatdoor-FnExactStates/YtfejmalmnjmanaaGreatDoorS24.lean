import Derived.Test.YtfejmalmnjmanaaGreatDoorS23
import Derived.Deep.RegionWith
import Derived.Test.YtfejmalmnjmanaaGreatDoorS01
set_option linter.unusedVariables false
set_option linter.unusedSimpArgs false
set_option maxRecDepth 20000
set_option maxHeartbeats 8000000
namespace Go.Proofs.YtfejmalmnjmanaaGreatDoor
open Go.RowKit
theorem StA.set_other {w:World}{B gS g:Nat}{zs:List SR}{arr:Array Value}{t:TypeId} (h:StA w B gS zs) (hg:w.heap[g]?=some (.cells arr t)) (h1:t≠58) (h2:t≠3) (h3:t≠113) (j:Nat) (v:Value):StA (w.setCell ⟨g,j,none⟩ v) B gS zs:=by
 have hne:∀ (k:Nat) (ar:Array Value) (u:TypeId),t≠u→w.heap[k]?=some (.cells ar u)→(w.setCell ⟨g,j,none⟩ v).heap[k]?=w.heap[k]?:=fun k ar u hu hk=>Below.heap_setCell _ _ _ _ fun e=>by
  rw[show k=g from e,hg] at hk
  cases hk
  exact hu rfl
 exact h.keep (hne gS _ _ h1 h.blk) (fun k ar _ hk=>hne k ar _ h2 hk) (fun k ar _ hk=>hne k ar _ h3 hk)
theorem read_no {xs:List FC}{w0:World}{n:ID}{nI nR:Nat}{ac:Option Addr}{lc cc:Nat}{p:Int}{tv:Value}{ts:List Int}{w:World} (hr:readV (xs.map FC.d) n ts=none) (ht:TyV w tv ts) (hR:ts.length=nR) (hn:InsOk nR nI n) (hl:nR≤250) (hc0:CodeAt w0 ac xs) (hlc:xs.length=lc) (hb0:Below w0.heap.size w0 w) (hg0:∀ g,tv.ownBlock=some g→w0.heap.size≤g) (hups:n.op=11→∃ (q:Nat) (f:FC),n.b=q∧xs[q]?=some f∧∀ u∈f.d.ups,u.l=true→0≤u.i∧u.i<nR) :
  Calls Tryz.prog 37 #[.agg #[.slice ac lc cc],.int .i64 p,IV n,tv] w fun e w'=>e=.returned (.tuple #[.slice none 0 0,.bool false])∧ButV tv w w':=by
 subst hR
 refine (read_v xs w0 n nI ac lc cc p tv ts w ht hn hl hc0 hlc hb0 hg0 hups).mono ?_
 rintro e w' ⟨⟨_,rfl⟩|⟨s,_,_,h,_⟩,hb⟩
 ·exact ⟨rfl,hb⟩
 ·rw[hr] at h;cases h
theorem read_yes {xs:List FC}{w0:World}{n:ID}{nI nR:Nat}{ac:Option Addr}{lc cc:Nat}{p:Int}{tv:Value}{ts:List Int}{w:World}{s:RdS} (hr:readV (xs.map FC.d) n ts=some s) (ht:TyV w tv ts) (hR:ts.length=nR) (hn:InsOk nR nI n) (hl:nR≤250) (hc0:CodeAt w0 ac xs) (hlc:xs.length=lc) (hb0:Below w0.heap.size w0 w) (hg0:∀ g,tv.ownBlock=some g→w0.heap.size≤g) (hups:n.op=11→∃ (q:Nat) (f:FC),n.b=q∧xs[q]?=some f∧∀ u∈f.d.ups,u.l=true→0≤u.i∧u.i<nR) :
  Calls Tryz.prog 37 #[.agg #[.slice ac lc cc],.int .i64 p,IV n,tv] w fun e w'=>(∃ a' c',e=.returned (.tuple #[.slice a' s.taken.length c',.bool true])∧SlA w' 1 natC a' s.taken∧∀ b off,a'=some ⟨b,off,none⟩→w.heap.size≤b)∧TyV w' tv s.ts∧s.taken.length≤8∧ButV tv w w':=by
 subst hR
 refine (read_v xs w0 n nI ac lc cc p tv ts w ht hn hl hc0 hlc hb0 hg0 hups).mono ?_
 rintro e w' ⟨⟨h,_⟩|⟨s',a',c',h,rfl,h1,h2,h3,h4,h5⟩,hb⟩
 ·rw[hr] at h;cases h
 ·rw[hr] at h
  cases h
  exact ⟨⟨a',c',rfl,h2,h5⟩,h1,h4,hb⟩
theorem change_no {n:ID}{a:Option Addr}{cap:Nat}{gs:List GD}{lg:Nat}{w:World} (hc:changeV n gs=none) (hlg:gs.length=lg) (hp:SlA w 3 GD.cells a gs) (hlen:lg≤50) :
  Calls Tryz.prog 38 #[IV n,.slice a lg cap] w fun e w'=>(∃ sv,e=.returned (.tuple #[sv,.bool false]))∧Below w.heap.size w w':=by
 subst hlg
 refine (change_any n a cap gs w hp hlen).mono ?_
 rintro e w' ⟨⟨_,sv,rfl⟩|⟨gs',a',c',h,_⟩,hb⟩
 ·exact ⟨⟨sv,rfl⟩,hb⟩
 ·rw[hc] at h;cases h
theorem change_yes {n:ID}{a:Option Addr}{cap:Nat}{gs gs':List GD}{lg:Nat}{w:World} (hc:changeV n gs=some gs') (hlg:gs.length=lg) (hp:SlA w 3 GD.cells a gs) (hlen:lg≤50) :
  Calls Tryz.prog 38 #[IV n,.slice a lg cap] w fun e w'=>(∃ a' c',e=.returned (.tuple #[.slice a' gs'.length c',.bool true])∧SlA w' 3 GD.cells a' gs'∧∀ b off,a'=some ⟨b,off,none⟩→w.heap.size≤b)∧Below w.heap.size w w':=by
 subst hlg
 refine (change_any n a cap gs w hp hlen).mono ?_
 rintro e w' ⟨⟨h,_⟩|⟨gs2,a',c',h,rfl,h2,h3⟩,hb⟩
 ·rw[hc] at h;cases h
 ·rw[hc] at h
  cases h
  exact ⟨⟨a',c',rfl,h2,h3⟩,hb⟩
theorem kept_v {n:ID}{ag at' ab ah:Option Addr}{lg lt lb cg ct cb ch:Nat}{gs:List GD}{taken:List Nat}{before behind:List Int}{w:World} (bb:Bool) (hb:keptV gs taken before behind=bb)
  (hlg:gs.length=lg) (hlt:taken.length=lt) (hlb:before.length=lb) (hlh:behind.length=lb) (h1:SlA w 3 GD.cells ag gs) (h2:SlA w 1 natC at' taken) (h3:SlA w 1 intC ab before) (h4:SlA w 1 intC ah behind)
  (l1:lg≤50) (l2:lt≤8) (l3:lb≤250) (hk:∀ g∈gs,0≤g.k∧g.k≤lb) (h32:n.op=32→before=behind) :
  Calls Tryz.prog 40 #[IV n,.slice ag lg cg,.slice at' lt ct,.slice ab lb cb,.slice ah lb ch] w fun e w'=>e=.returned (.bool bb)∧Below w.heap.size w w':=by
 refine (kept_any n ag at' ab ah lg lt lb cg ct cb ch gs taken before behind w hlg hlt hlb hlh h1 h2 h3 h4 l1 (by omega) l3 (fun g hg _=>(hk g hg).2) h32).mono ?_
 rintro e w' ⟨rfl,hx⟩
 rw[keptS_eq _ _ _ _ (by omega),hb]
 exact ⟨rfl,hx⟩
theorem same32 {c:List FD}{n:ID}{ts:List Int}{s:RdS} (e:n.op=32) (h:readV c n ts=some s):ts=writeV n s.ts:=by
 rw[readV_all] at h
 have e0:rl n.op 0=0:=by rw[e];rfl
 have e1:rl n.op 1=0:=by rw[e];rfl
 have e2:rl n.op 2=0:=by rw[e];rfl
 have e3:rl n.op 3=0:=by rw[e];rfl
 have hall:∀ f∈fldV n,(wantsV f.1).1=0:=by
  intro f hf
  simp only[fldV,e0,e1,e2,e3,List.mem_cons,List.not_mem_nil,or_false] at hf
  rcases hf with rfl|rfl|rfl|rfl <;> rfl
 rw[rdAll_nil _ _ hall,Option.bind_some,if_neg (by rw[e];decide)] at h
 have hs:s=⟨ts,[],[]⟩:=by cases h;rfl
 rw[hs]
 unfold writeV
 rw[e]
 rfl
theorem same41 {c:List FD}{n:ID}{ts:List Int}{s:RdS}{gs gs':List GD}{nR nI:Nat} (hn:InsOk nR nI n) (hl:ts.length=nR) (e:n.op=41) (h:readV c n ts=some s) (hc:changeV n gs=some gs'):(⟨(writeV n s.ts).set n.c.toNat (ts.getD n.c.toNat 0),gs'⟩:SD)=⟨ts,gs⟩:=by
 rw[readV_all] at h
 have e0:rl n.op 0=20:=by rw[e];rfl
 have e1:rl n.op 1=10:=by rw[e];rfl
 have e2:rl n.op 2=1:=by rw[e];rfl
 have e3:rl n.op 3=0:=by rw[e];rfl
 have hg:gs'=gs:=by
  unfold changeV at hc
  rw[e] at hc
  simp at hc
  exact hc.symm
 have hts:s.ts=ts:=by
  obtain ⟨s1,h1,h2⟩:=Option.bind_eq_some_iff.1 h
  have hs:s=s1:=by
   split at h2
   ·rename_i hx;rw[e] at hx;cases hx
   ·cases h2;rfl
  subst hs
  simp only[fldV,rdAll,e0,e1,e2,e3] at h1
  obtain ⟨s2,h3,h4⟩:=Option.bind_eq_some_iff.1 h1
  have hw10:(wantsV 10).1=0:=rfl
  have hw1:(wantsV 1).1=0:=rfl
  have hw00:(wantsV 0).1=0:=rfl
  simp only[rdStep,hw10,hw1,hw00,if_true,Option.bind_some] at h4
  cases h4
  simp only[rdStep,show wantsV 20=(1,false) from rfl] at h3
  split at h3
  ·omega
  ·split at h3
   ·simp[rdTake,rdMore] at h3
    obtain ⟨_,h3⟩:=h3
    rw[←h3]
   ·cases h3
 have hcx:=hn.wc e
 rw[hg,hts]
 unfold writeV
 simp only[e]
 simp only[show ¬((41:Int)=6) by decide,show ¬((41:Int)=22∨(41:Int)=27∨(41:Int)=28) by decide,show ¬((41:Int)=40) by decide,show ¬((41:Int)=42) by decide,if_false,if_true]
 congr 1
 apply List.ext_getElem?
 intro i
 rw[List.getElem?_set,List.getElem?_set]
 split
 ·rename_i hi
  subst hi
  simp only[List.length_set]
  split
  ·rename_i hlt;rw[List.getD_eq_getElem?_getD,List.getElem?_eq_getElem hlt];rfl
  ·rename_i hlt;rw[List.getElem?_eq_none (by omega)]
 ·rfl
theorem SlA.butv {α:Type}{tv:Value}{w w':World}{k:Nat}{cells:α→List Value}{a:Option Addr}{xs:List α} (h:SlA w k cells a xs) (hf:∀ b off,a=some ⟨b,off,none⟩→tv.ownBlock≠some b) (hb:ButV tv w w'):SlA w' k cells a xs:=by
 intro i x hx
 obtain ⟨b,off,e,hl,hc⟩:=h i x hx
 refine ⟨b,off,e,Nat.lt_of_lt_of_le hl hb.size,fun j v hv=>?_⟩
 have:=hc j v hv
 unfold World.cell? at this ⊢
 rw[hb.block b hl (hf b off e)]
 exact this
theorem TyV.lt {w:World}{tv:Value}{ts:List Int} (h:TyV w tv ts):∀ g,tv.ownBlock=some g→g<w.heap.size:=by
 intro g hg
 rcases h with ⟨_,rfl⟩|⟨g',cap,rfl,h⟩
 ·cases hg
 ·cases hg;exact h.lt
theorem TyV.len {w:World}{tv:Value}{ts:List Int} (h:TyV w tv ts):∃ a cap,tv=.slice a ts.length cap:=by
 obtain ⟨a,cap,e,_⟩:=h.sl
 exact ⟨a,cap,e⟩
theorem fol_v {n:ID}{nI i bk off ci:Nat}{name:ByteArray}{line params regs:Int}{rest:Bool}{au ac an:Option Addr}{lu cu lc cc ln cn nR lg ly:Nat}{w:World}{q x:SD} (h1:q.ts.length=nR) (h2:q.gs.length=lg) (h3:x.ts.length=nR) (h4:x.gs.length=ly) (hn:InsOk nR nI n) (hi:i<nI) (hI:nI≤6000) {w0:World} (ins:List ID) (hin:ins[i]?=some n) (hsi:SlA w0 5 ID.cells (some ⟨bk,off,none⟩) ins) (hb:Below w0.heap.size w0 w)
  {aq bq at' ag:Option Addr}{cq dq ct cg:Nat} (hl:nR≤250) (s1:SlA w 1 intC aq q.ts) (s2:SlA w 3 GD.cells bq q.gs) (s3:SlA w 1 intC at' x.ts) (s4:SlA w 3 GD.cells ag x.gs)
  (h41:n.op=41→(⟨x.ts.set n.c.toNat (q.ts.getD n.c.toNat 0),x.gs⟩:SD)=q) :
  Calls Tryz.prog 41 #[.agg #[.string name,.int .i64 line,.int .i64 params,.bool rest,.int .i64 regs,.slice au lu cu,.slice ac lc cc,.slice (some ⟨bk,off,none⟩) nI ci,.slice an ln cn],.int .i64 i,StV true aq nR cq bq lg dq,.slice at' nR ct,.slice ag ly cg] w fun e w'=>(∃ aY cY ys,e=.returned (.slice aY ys.length cY)∧ORow w' w.heap.size 91 4 NX.cells (.slice aY ys.length cY) ys∧(ys.map fun y=>(y.t,y.x))=followV n i q x∧∀ y∈ys,y.lie w')∧Below w.heap.size w w':=by
 subst h1 h2 h4
 obtain ⟨b',off',e0,hbl,hc⟩:=hsi i n hin
 cases e0
 rw[←h3]
 rw[←h3] at hn
 have:=followers_any n nI i bk off ci name line params regs rest au ac an lu cu lc cc ln cn w q x (h3 ▸ hn) hi (by omega) (Nat.lt_of_lt_of_le hbl hb.size) (cell_later hb (by have:=hc 0 _ rfl;simpa using this)) (cell_later hb (hc 1 _ rfl)) (cell_later hb (hc 2 _ rfl)) (cell_later hb (hc 3 _ rfl)) (cell_later hb (hc 4 _ rfl)) aq bq at' ag cq dq ct cg h3 hl s1 s2 s3 s4 h41
 rw[←h3] at this
 refine this.mono ?_
 rintro e w' ⟨⟨sv,ys,rfl,ho,hm,hlie⟩,hb2⟩
 obtain ⟨aY,cY,rfl⟩:=ho.val
 exact ⟨⟨aY,cY,ys,rfl,ho,hm,hlie⟩,hb2⟩
structure FoI (w:World) (o0 o2:Obj) (wx:World) (nR nI:Nat) (ys:List NX) (S0:WkS) (k:Nat) (wi:World) (zs:List SR) (due:List Bool):Prop where
 bel:Below w.heap.size w wi
 code:wi.heap[w.heap.size]?=some o0
 flt:wi.heap[w.heap.size+1]?=some (FO 0 0 0)
 pro:wi.heap[w.heap.size+1+1]?=some o2
 st:StA wi w.heap.size (w.heap.size+1+1+1) zs
 dub:wi.heap[w.heap.size+1+1+1+1]?=some (.cells (mb due) 4)
 ok:WOk nR nI ⟨zs.map SR.o,due⟩
 bl:ButL [w.heap.size+1+1+1,w.heap.size+1+1+1+1] wx wi
 lead:leadW ((ys.drop k).map fun y=>(y.t,y.x)) ⟨zs.map SR.o,due⟩=leadW (ys.map fun y=>(y.t,y.x)) S0
theorem ORow.butl {α:Type}{S:List Nat}{w w':World}{B k:Nat}{et:TypeId}{cells:α→List Value}{sv:Value}{xs:List α} (h:ORow w B et k cells sv xs) (hb:ButL S w w') (hS:∀ g∈S,∀ arr,w.heap[g]?≠some (.cells arr et)):ORow w' B et k cells sv xs :=
 h.keep fun j arr _ hj=>hb.block j (blk_lt hj) fun hm=>hS j hm arr hj
theorem FoI.later {w:World}{o0 o2:Obj}{wx:World}{nR nI:Nat}{ys:List NX}{S0:WkS}{k:Nat}{wi wj:World}{zs:List SR}{due:List Bool} (h:FoI w o0 o2 wx nR nI ys S0 k wi zs due) (hb:Below wi.heap.size wi wj):FoI w o0 o2 wx nR nI ys S0 k wj zs due :=
 ⟨h.bel.trans (hb.mono h.bel.size),qBz hb h.code,qBz hb h.flt,qBz hb h.pro,h.st.later hb,qBz hb h.dub,h.ok,h.bl.trans (ButL.of_below hb),h.lead⟩
theorem lead_drop {ys:List NX}{k:Nat}{y:NX}{s:WkS}{r:Except Nat WkS} (hy:ys[k]?=some y) (h:leadW ((ys.drop k).map fun y=>(y.t,y.x)) s=r):(match reachW s y.t y.x with|some s'=>leadW ((ys.drop (k+1)).map fun y=>(y.t,y.x)) s'|none=>.error y.t)=r:=by
 have hk:=(List.getElem?_eq_some_iff.1 hy).1
 rw[List.drop_eq_getElem_cons hk,(List.getElem?_eq_some_iff.1 hy).2] at h
 exact h
theorem FoI.same {w:World}{o0 o2:Obj}{wx:World}{nR nI:Nat}{ys:List NX}{S0:WkS}{k:Nat}{wi:World}{zs:List SR}{due:List Bool}{y:NX}{x:SD} (h:FoI w o0 o2 wx nR nI ys S0 k wi zs due) (hy:ys[k]?=some y) (hz:(zs.map SR.o)[y.t]?=some (some x)) (he:sEq x y.x=true):FoI w o0 o2 wx nR nI ys S0 (k+1) wi zs due:=by
 have hl:=lead_drop hy h.lead
 have hg:(zs.map SR.o).getD y.t none=some x:=by rw[List.getD_eq_getElem?_getD,hz];rfl
 unfold reachW at hl
 dsimp only at hl
 rw[hg] at hl
 dsimp only at hl
 rw[if_pos he] at hl
 exact ⟨h.bel,h.code,h.flt,h.pro,h.st,h.dub,h.ok,h.bl,hl⟩
theorem FoI.differ {w:World}{o0 o2:Obj}{wx:World}{nR nI:Nat}{ys:List NX}{S0:WkS}{k:Nat}{wi:World}{zs:List SR}{due:List Bool}{y:NX}{x:SD} (h:FoI w o0 o2 wx nR nI ys S0 k wi zs due) (hy:ys[k]?=some y) (hz:(zs.map SR.o)[y.t]?=some (some x)) (he:sEq x y.x=false):leadW (ys.map fun y=>(y.t,y.x)) S0=.error y.t:=by
 have hl:=lead_drop hy h.lead
 have hg:(zs.map SR.o).getD y.t none=some x:=by rw[List.getD_eq_getElem?_getD,hz];rfl
 unfold reachW at hl
 dsimp only at hl
 rw[hg] at hl
 dsimp only at hl
 rw[if_neg (by rw[he];simp)] at hl
 exact hl.symm
theorem FoI.new {w:World}{o0 o2:Obj}{wx:World}{nR nI:Nat}{ys:List NX}{S0:WkS}{k:Nat}{wi wj wz:World}{zs:List SR}{due:List Bool}{y:NX}{tv gv:Value} (h:FoI w o0 o2 wx nR nI ys S0 k wi zs due) (hy:ys[k]?=some y) (hz:(zs.map SR.o)[y.t]?=some none) (hx:SOk nR y.x) (hb:Below wi.heap.size wi wj)
  (ht:ORow wj wi.heap.size 3 1 intC tv y.x.ts) (hg:ORow wj wi.heap.size 113 3 GD.cells gv y.x.gs)
  (e:wz=(((wj.setCell ⟨w.heap.size+1+1+1,y.t*3,none⟩ (.bool true)).setCell ⟨w.heap.size+1+1+1,y.t*3+1,none⟩ tv).setCell ⟨w.heap.size+1+1+1,y.t*3+2,none⟩ gv).setCell ⟨w.heap.size+1+1+1+1,y.t,none⟩ (.bool true)) :
  FoI w o0 o2 wx nR nI ys S0 (k+1) wz (zs.set y.t ⟨some y.x,tv,gv⟩) (due.set y.t true):=by
 have h':=h.later hb
 have htl:y.t<zs.length:=by have:=(List.getElem?_eq_some_iff.1 hz).1;simpa using this
 have hbase:w.heap.size≤wi.heap.size:=h.bel.size
 have hS:=h'.st.put (i:=y.t) (z:=⟨some y.x,tv,gv⟩) htl ⟨ht.mono hbase,hg.mono hbase⟩ (fun j z hj hzj=>by
  have hok:=h.st.ok z (List.mem_of_getElem? hzj)
  unfold SR.ok at hok
  constructor
  ·intro b hb1 hb2
   have h2:=(ht.own_lt hb2).1
   split at hok
   ·rw[hok.1] at hb1;cases hb1
   ·have:=(hok.1.own_lt hb1).2;omega
  ·intro b hb1 hb2
   have h2:=(hg.own_lt hb2).1
   split at hok
   ·rw[hok.2] at hb1;cases hb1
   ·have:=(hok.2.own_lt hb1).2;omega)
 have hl:=lead_drop hy h.lead
 have hgd:(zs.map SR.o).getD y.t none=none:=by rw[List.getD_eq_getElem?_getD,hz];rfl
 have hrw:reachW ⟨zs.map SR.o,due⟩ y.t y.x=some ⟨(zs.map SR.o).set y.t (some y.x),due.set y.t true⟩:=by unfold reachW;dsimp only;rw[hgd]
 rw[hrw] at hl
 dsimp only at hl
 have hmap:(zs.set y.t ⟨some y.x,tv,gv⟩).map SR.o=(zs.map SR.o).set y.t (some y.x):=by rw[List.map_set]
 obtain ⟨wm,hwm⟩:∃ wm,wm=((wj.setCell ⟨w.heap.size+1+1+1,y.t*3,none⟩ (.bool true)).setCell ⟨w.heap.size+1+1+1,y.t*3+1,none⟩ tv).setCell ⟨w.heap.size+1+1+1,y.t*3+2,none⟩ gv:=⟨_,rfl⟩
 have B:∀ (g:Nat) (o:Obj),g≠w.heap.size+1+1+1→wj.heap[g]?=some o→wm.heap[g]?=some o:=fun g o hne ho=>by rw[hwm];exact qFz (qFz (qFz ho (by omega) _ _) (by omega) _ _) (by omega) _ _
 have hd4:=B _ _ (by omega) h'.dub
 have key:FoI w o0 o2 wx nR nI ys S0 (k+1) (wm.setCell ⟨w.heap.size+1+1+1+1,y.t,none⟩ (.bool true)) (zs.set y.t ⟨some y.x,tv,gv⟩) (due.set y.t true):=by
  refine ⟨?_,?_,?_,?_,?_,?_,?_,?_,?_⟩
  ·rw[hwm];exact (((h'.bel.setCell (by simp;omega) _).setCell (by simp;omega) _).setCell (by simp;omega) _).setCell (by simp;omega) _
  ·exact qFz (B _ _ (by omega) h'.code) (by omega) _ _
  ·exact qFz (B _ _ (by omega) h'.flt) (by omega) _ _
  ·exact qFz (B _ _ (by omega) h'.pro) (by omega) _ _
  ·exact StA.set_bool (by rw[hwm];exact hS) hd4 _ _
  ·have hq:=qLz hd4 y.t (.bool true);rw[mb_set] at hq;exact hq
  ·rw[hmap];exact reachW_ok h.ok hx hrw
  ·rw[hwm];exact (((h'.bl.set (by simp) _ _).set (by simp) _ _).set (by simp) _ _).set (by simp) _ _
  ·rw[hmap];exact hl
 rw[e,← hwm]
 exact key
theorem followV_len (n:ID) (a:Nat) (x y:SD):(followV n a x y).length≤2:=by
 unfold followV
 rw[List.length_append]
 have h1:(if goesV n.op=true then [(a+1,y)] else []).length≤1:=by split <;> simp
 cases targetV n with
 | none=>dsimp only;simp only[List.length_nil];omega
 | some t=>dsimp only;simp only[List.length_cons,List.length_nil];omega
theorem count_set:∀ (l:List Bool) (i:Nat),l[i]?=some false→(l.set i true).count false+1=l.count false
 | [],i,h=>by simp at h
 | b::l,0,h=>by
  simp at h
  subst h
  simp
 | b::l,i+1,h=>by
  simp at h
  have:=count_set l i h
  simp only[List.set_cons_succ,List.count_cons]
  omega
theorem wpAny_inv {P:Program}{ops:Array Oper}{Q:Exit→Act→World→Prop}{md:Region.Mode} (Inv:Array Bool→Act→World→Prop)
  (hstep:∀ i listed a w,Inv listed a w→i∈Region.ready md ops listed→wpOp P ops Q i (Inv (listed.setIfInBounds i true)) a w)
  (hend:∀ listed a w,Inv listed a w→Region.ready md ops listed=[]→Q .normal a w) :
  ∀ (fuel:Nat) (listed:Array Bool) (a:Act) (w:World),listed.toList.count false≤fuel→Inv listed a w→wpAny P md ops Q fuel listed a w:=by
 have hin:∀ (listed:Array Bool) (i:Nat),i∈Region.ready md ops listed→listed.toList[i]?=some false:=by
  intro listed i hi
  have h:=(mem_ready.1 hi).1
  rw[Array.getElem?_toList]
  rcases Nat.lt_or_ge i listed.size with h'|h'
  ·simp[h'] at h ⊢;exact h
  ·simp[Array.getElem?_eq_none h'] at h
 intro fuel
 induction fuel with
 | zero =>
  intro listed a w hc hI
  have hr:Region.ready md ops listed=[]:=by
   cases hr:Region.ready md ops listed with
   | nil=>rfl
   | cons i r =>
    have h:=hin listed i (by rw[hr];simp)
    have:=count_set _ i h
    omega
  exact ⟨hr,hend _ _ _ hI hr⟩
 | succ fuel ih =>
  intro listed a w hc hI
  refine ⟨hend _ _ _ hI,fun i hi=>?_⟩
  refine wpOp_mono (fun a' w' h=>ih _ a' w' ?_ h) (hstep i listed a w hI hi)
  have:=count_set _ i (hin listed i hi)
  rw[Array.toList_setIfInBounds]
  omega
theorem wp_region_inv {P:Program}{id:Nat}{ops:Array Oper}{Q:Exit→Act→World→Prop}{a:Act}{w:World} (hm:P.follows .mixedOrders=true) (F:Act→Array Bool→Act→World→Prop)
  (h0:F a (Array.replicate ops.size false) a w.drew)
  (hstep:∀ i listed a' w',F a listed a' w'→i∈Region.ready .any ops listed→wpOp P ops Q i (F a (listed.setIfInBounds i true)) a' w')
  (hend:∀ listed a' w',F a listed a' w'→Region.ready .any ops listed=[]→Q .normal a' w'):(Code.region id ops true).wp P Q a w :=
 wp_region_any hm (wpAny_inv (F a) hstep hend ops.size _ a w.drew (by simp) h0)
theorem qMz {md:Region.Mode}{ops:Array Oper}{listed:Array Bool} (hr:Region.ready md ops listed=[]) (i:Nat) {o:Oper} (ho:ops[i]?=some o) (hd:∀ e∈o.after.toList,listed.getD e.on false=true):listed.getD i true=true:=by
 by_cases h:listed.getD i true=true
 ·exact h
 ·have:i∈Region.ready md ops listed:=mem_ready.2 ⟨by simpa using h,o,ho,fun e he _=>hd e (Array.mem_toList_iff.2 he)⟩
  rw[hr] at this
  cases this
theorem qCz {md:Region.Mode}{ops:Array Oper}{listed:Array Bool}{i:Nat} (hr:i∈Region.ready md ops listed) {o:Oper} (ho:ops[i]?=some o) (e:Edge) (he:e∈o.after.toList) (hb:Region.binds md e=true):listed.getD e.on false=true:=by
 obtain ⟨_,o',ho',h⟩:=mem_ready.1 hr
 rw[ho] at ho'
 cases ho'
 exact h e (Array.mem_toList_iff.1 he) hb
theorem ready_lt {md:Region.Mode}{ops:Array Oper}{listed:Array Bool}{i:Nat} (hr:i∈Region.ready md ops listed):i<ops.size:=by
 obtain ⟨_,o',ho',h⟩:=mem_ready.1 hr
 exact (Array.getElem?_eq_some_iff.1 ho').1
structure R40 (wi:World) (g xb nI:Nat) (y:NX) (w':World) (b0 b1 b2 b3 b4 b5 b6 b7 b8 b9 b10 b11:Bool) (x0 x1 x2 x3 x4 x5 x6 x7 x8 x9 x10 x11:Value):Prop where
 hb:Below wi.heap.size wi w'
 h0:b0=true→x0=.slice (some ⟨g,0,none⟩) nI nI
 h1:b1=true→x1=.pointer (some ⟨xb,0,none⟩)
 h2:b2=true→x2=.int .i64 (y.t:Int)
 h3:b3=true→x3=.pointer (some ⟨xb,1,none⟩)
 h4:b4=true→x4=.pointer (some ⟨xb,2,none⟩)
 h5:b5=true→x5=.slice y.a y.x.ts.length y.c
 h6:b6=true→∃ a c,x6=.slice a y.x.ts.length c∧ORow w' wi.heap.size 3 1 intC (.slice a y.x.ts.length c) y.x.ts
 h7:b7=true→x7=.pointer (some ⟨xb,1,none⟩)
 h8:b8=true→x8=.pointer (some ⟨xb,3,none⟩)
 h9:b9=true→x9=.slice y.b y.x.gs.length y.d
 h10:b10=true→∃ a c,x10=.slice a y.x.gs.length c∧ORow w' wi.heap.size 113 3 GD.cells (.slice a y.x.gs.length c) y.x.gs
 h11:b11=true→b6=true∧b10=true∧x11=.agg #[.bool true,x6,x10]
theorem R40.later {wi:World}{g xb nI:Nat}{y:NX}{w' w2:World}{b0 b1 b2 b3 b4 b5 b6 b7 b8 b9 b10 b11:Bool}{x0 x1 x2 x3 x4 x5 x6 x7 x8 x9 x10 x11:Value} (h:R40 wi g xb nI y w' b0 b1 b2 b3 b4 b5 b6 b7 b8 b9 b10 b11 x0 x1 x2 x3 x4 x5 x6 x7 x8 x9 x10 x11) (hx:Below w'.heap.size w' w2):R40 wi g xb nI y w2 b0 b1 b2 b3 b4 b5 b6 b7 b8 b9 b10 b11 x0 x1 x2 x3 x4 x5 x6 x7 x8 x9 x10 x11 :=
 { h with
  hb:=h.hb.trans (hx.mono h.hb.size)
  h6:=fun e=>by obtain ⟨a,c,e1,e2⟩:=h.h6 e;exact ⟨a,c,e1,e2.later hx⟩
  h10:=fun e=>by obtain ⟨a,c,e1,e2⟩:=h.h10 e;exact ⟨a,c,e1,e2.later hx⟩ }
theorem PrOk.lt {xs:List FC}{d:FD}{nR nI nP:Nat}{E:Nat→List Nat} (h:PrOk xs d nR nI nP E):∀ x,x<nI→∀ y∈E x,y<nI:=by
 intro x hx y hy
 have hxi:x<d.ins.length:=by rw[h.ins];exact hx
 have h0:d.ins[x]?=some (d.ins[x]'hxi):=List.getElem?_eq_getElem hxi
 have hn:=h.ok _ (List.getElem_mem hxi)
 rw[h.sil x _ h0,silS_mem] at hy
 unfold silentV at hy
 rcases List.mem_append.1 hy with hy|hy
 ·split at hy
  ·rename_i e
   simp at hy
   rw[hy]
   exact h.goes x _ h0 (by simp only[Bool.and_eq_true] at e;exact e.1)
  ·cases hy
 ·split at hy
  ·rename_i t ht
   simp at hy
   subst hy
   unfold targetV at ht
   split at ht
   ·rename_i e;have:=hn.ta e;simp at ht;omega
   ·split at ht
    ·rename_i e;have:=hn.tb e;simp at ht;omega
    ·cases ht
  ·cases hy
theorem rep_set {α:Type} (n:Nat) (a b:α) (h:0<n):(List.replicate n a).set 0 b=b::List.replicate (n-1) a:=by
 obtain ⟨m,rfl⟩:∃ m,n=m+1:=⟨n-1,by omega⟩
 simp[List.replicate_succ]
abbrev WZ (w wr:World) (nR:Nat):World:=(((wr.setCell ⟨w.heap.size+1+1+1,0,none⟩ (.bool true)).setCell ⟨w.heap.size+1+1+1,1,none⟩ (.slice (some ⟨w.heap.size+1+1+1+1+1,0,none⟩) nR nR)).setCell ⟨w.heap.size+1+1+1,2,none⟩ (.slice none 0 0)).setCell ⟨w.heap.size+1+1+1+1,0,none⟩ (.bool true)
theorem wki_start {xs:List FC}{d:FD}{R:Except (Nat × Nat) WkS}{nR nI nP k0:Nat}{E:Nat→List Nat}{w wr:World}{o0 o2:Obj} (hf:PrOk xs d nR nI nP E) (hW:Below w.heap.size w wr) (B0:wr.heap[w.heap.size]?=some o0) (B1:wr.heap[w.heap.size+1]?=some (FO 0 0 0)) (B2:wr.heap[w.heap.size+1+1]?=some o2) (B3:wr.heap[w.heap.size+1+1+1]?=some (.cells ((List.replicate nI sr0).flatMap SR.cells).toArray 58)) (B4:wr.heap[w.heap.size+1+1+1+1]?=some (.cells (mb (List.replicate nI false)) 4)) (hT:TyAt wr (w.heap.size+1+1+1+1+1) nR (startT nP nR d.rest)) (hR:Runs (xs.map FC.d) d.ins k0 (startS d) R) :
  ∃ zs due,WkI xs d.ins R nR nI w o0 o2 (WZ w wr nR) zs due:=by
 have hlen:(startT nP nR d.rest).length=nR:=startT_len _ _ _ (by have:=hf.par1;split at this <;> omega)
 have hrow:=hT.own (B:=w.heap.size) (by omega) (by have:=hf.reg1;omega)
 rw[hlen] at hrow
 have hS0:StA wr w.heap.size (w.heap.size+1+1+1) (List.replicate nI sr0):=⟨B3,fun z hz=>by rw[List.eq_of_mem_replicate hz];exact ⟨rfl,rfl⟩,fun i j y z _ h1 h2=>by
  rw[List.getElem?_replicate] at h1
  split at h1
  ·cases h1;exact ⟨Apart.nil _,Apart.nil _⟩
  ·cases h1⟩
 have hS1:=hS0.put (i:=0) (z:=⟨some ⟨startT nP nR d.rest,[]⟩,.slice (some ⟨w.heap.size+1+1+1+1+1,0,none⟩) nR nR,.slice none 0 0⟩) (by simp;exact hf.ins0) ⟨hrow,ORow.nil _ _ _ _ _⟩ (fun j y _ hj=>by
  rw[List.getElem?_replicate] at hj
  split at hj
  ·cases hj;exact ⟨Apart.nil _,Apart.nil _⟩
  ·cases hj)
 have hb4:∀ (j1 j2 j3:Nat) (v1 v2 v3:Value),(((wr.setCell ⟨w.heap.size+1+1+1,j1,none⟩ v1).setCell ⟨w.heap.size+1+1+1,j2,none⟩ v2).setCell ⟨w.heap.size+1+1+1,j3,none⟩ v3).heap[w.heap.size+1+1+1+1]?=some (.cells (mb (List.replicate nI false)) 4):=fun j1 j2 j3 v1 v2 v3=>qFz (qFz (qFz B4 (by omega) _ _) (by omega) _ _) (by omega) _ _
 have hrun:(⟨((List.replicate nI sr0).set 0 ⟨some ⟨startT nP nR d.rest,[]⟩,.slice (some ⟨w.heap.size+1+1+1+1+1,0,none⟩) nR nR,.slice none 0 0⟩).map SR.o,(List.replicate nI false).set 0 true⟩:WkS)=startS d:=by
  rw[rep_set _ _ _ hf.ins0,rep_set _ _ _ hf.ins0]
  unfold startS
  rw[hf.ins,show d.regs.toNat=nR by rw[hf.regs];simp,show d.params.toNat=nP by rw[hf.par];simp]
  simp[sr0]
 refine ⟨_,(List.replicate nI false).set 0 true,?_,?_,?_,?_,hS1.set_bool (hb4 _ _ _ _ _ _) 0 _,?_,?_,?_⟩
 ·exact (((hW.setCell (by simp;omega) _).setCell (by simp;omega) _).setCell (by simp;omega) _).setCell (by simp;omega) _
 ·exact qFz (qFz (qFz (qFz B0 (by omega) _ _) (by omega) _ _) (by omega) _ _) (by omega) _ _
 ·exact qFz (qFz (qFz (qFz B1 (by omega) _ _) (by omega) _ _) (by omega) _ _) (by omega) _ _
 ·exact qFz (qFz (qFz (qFz B2 (by omega) _ _) (by omega) _ _) (by omega) _ _) (by omega) _ _
 ·have h:=qLz (hb4 0 1 2 (.bool true) (.slice (some ⟨w.heap.size+1+1+1+1+1,0,none⟩) nR nR) (.slice none 0 0)) 0 (.bool true)
  rw[mb_set] at h
  exact h
 ·rw[hrun];exact startS_ok hf
 ·exact ⟨k0,by rw[hrun];exact hR⟩
def EE (d:FD):Nat→List Nat:=fun x=>silS (d.ins.getD x id0) x
theorem f6i_none {c:List FD}{p:Nat}{f:FD}:∀ {ns:List ID}{i:Nat}{made m:List Bool},f6i c p f ns i made=(none,m)→∀ n∈ns,n.op=11→upsB f (c.getD n.b.toNat fd0).ups=true
 | [],i,made,m,_,n,hn,_=>by cases hn
 | y::ns,i,made,m,h,n,hn,ho=>by
  unfold f6i at h
  rcases List.mem_cons.1 hn with rfl|hn
  ·rw[if_pos ho] at h
   split at h
   ·rename_i hf
    unfold fnB at hf
    simp only[Bool.not_eq_true',Bool.or_eq_false_iff] at hf
    simpa using hf.2
   ·cases h
  ·split at h
   ·split at h
    ·exact f6i_none h n hn ho
    ·cases h
   ·exact f6i_none h n hn ho
theorem f6_none {c:List FD}:∀ {fs:List FD}{p:Nat}{made m:List Bool},f6 c fs p made=(none,m)→∀ f∈fs,∀ n∈f.ins,n.op=11→upsB f (c.getD n.b.toNat fd0).ups=true
 | [],p,made,m,_,f,hf=>by cases hf
 | g::fs,p,made,m,h,f,hf=>by
  unfold f6 at h
  split at h
  ·cases h
  ·rename_i mm hg
   rcases List.mem_cons.1 hf with rfl|hf
   ·exact f6i_none hg
   ·exact f6_none h f hf
theorem len_le_total:∀ {c:List FD}{f:FD},f∈c→f.ins.length≤total c
 | [],f,h=>by cases h
 | g::c,f,h=>by
  unfold total
  rw[List.map_cons,List.sum_cons]
  rcases List.mem_cons.1 h with rfl|h
  ·omega
  ·have:=len_le_total h
   unfold total at this
   omega
theorem shape_both {c:List FD} (h:(shapeV c).1=0):(partsV c).1=0∧(fnsV c).1=0:=by
 unfold shapeV at h
 split at h
 ·rename_i hp;exact ⟨hp,h⟩
 ·rename_i hp;exact absurd h hp
theorem prok_of {xs:List FC}{p:Nat}{f:FC} (h:(shapeV (xs.map FC.d)).1=0) (hp:xs[p]?=some f):PrOk xs f.d f.d.regs.toNat f.d.ins.length f.d.params.toNat (EE f.d):=by
 obtain ⟨h1,h2⟩:=shape_both h
 obtain ⟨q1,q2,q3,q4,q5⟩:=parts_ok h1
 have hm:(xs.map FC.d)[p]?=some f.d:=by rw[List.getElem?_map,hp];rfl
 have hfm:f.d∈xs.map FC.d:=List.mem_of_getElem? hm
 have hh:=fp_none q2 p _ hm
 have hi:=fp_none q5 p _ hm
 rw[Nat.zero_add] at hh hi
 unfold hd0 at hh
 have hH:headB p f.d=true:=by
  split at hh
  ·assumption
  ·cases hh
 unfold headB at hH
 simp only[Bool.and_eq_true,inR,decide_eq_true_eq] at hH
 obtain ⟨⟨⟨⟨⟨⟨a1,a2⟩,a3⟩,a4⟩,a5⟩,a6⟩,a7⟩:=hH
 unfold in0 at hi
 have hne:f.d.ins.length≠0:=by
  intro e
  rw[if_pos e] at hi
  cases hi
 rw[if_neg hne] at hi
 have hins:∀ (i:Nat) n,f.d.ins[i]?=some n→insB (xs.map FC.d).length f.d i n=true:=fun i n hn=>by have:=ff_none hi i n hn;rwa [Nat.zero_add] at this
 have hfl:∀ n∈f.d.ins,fieldsB (xs.map FC.d).length f.d n=true:=fun n hn=>by
  obtain ⟨i,hi⟩:=List.mem_iff_getElem?.1 hn
  have:=hins i n hi
  unfold insB at this
  simp only[Bool.and_eq_true] at this
  exact this.1
 have hfns:∀ n∈f.d.ins,n.op=11→upsB f.d ((xs.map FC.d).getD n.b.toNat fd0).ups=true:=by
  unfold fnsV at h2
  split at h2
  ·cases h2
  ·rename_i made hg
   exact f6_none hg f.d hfm
 have htot:f.d.ins.length≤6000:=by
  have:=len_le_total hfm
  unfold badSize at q1
  omega
 refine ⟨by omega,by omega,rfl,by omega,htot,?_,?_,fun n hn=>insOk_of (hfl n hn) a3.1,?_,?_,?_⟩
 ·have:=a4.1;omega
 ·have h4:=a4.2
  have h41:=a4.1
  split at h4 <;> rename_i hr <;> simp only[hr,if_true,if_false,Bool.false_eq_true] <;> omega
 ·intro a n hn hg
  have:=hins a n hn
  unfold insB at this
  simp only[Bool.and_eq_true,Bool.or_eq_true,Bool.not_eq_true',beq_eq_false_iff_ne] at this
  have hlt:=(List.getElem?_eq_some_iff.1 hn).1
  unfold goesV at hg
  rcases this.2 with h3|h3
  ·simp at h3;omega
  ·rw[h3] at hg;cases hg
 ·intro n hn ho
  have hu:=hfns n hn ho
  have hb:=hfl n hn
  unfold fieldsB at hb
  simp only[Bool.and_eq_true] at hb
  have hb1:=hb.1.1.2
  rw[fits_iff,ho,show rl 11 1=9 from rfl] at hb1
  simp[lohi] at hb1
  have hlt:n.b.toNat<xs.length:=by omega
  refine ⟨n.b.toNat,xs[n.b.toNat]'hlt,by omega,List.getElem?_eq_getElem hlt,fun u hu1 hul=>?_⟩
  have hgd:(xs.map FC.d).getD n.b.toNat fd0=(xs[n.b.toNat]'hlt).d:=by rw[List.getD_eq_getElem?_getD,List.getElem?_map,List.getElem?_eq_getElem hlt];rfl
  rw[hgd] at hu
  unfold upsB at hu
  have:=List.all_eq_true.1 hu u hu1
  unfold upB at this
  rw[if_pos hul] at this
  simp only[inR,Bool.and_eq_true,decide_eq_true_eq] at this
  omega
 ·intro a n hn
  unfold EE
  rw[List.getD_eq_getElem?_getD,hn]
  rfl
def WF (c:List FD) (p:Nat) (d:FD) (r:Option F3):Prop:=∃ k R,Runs c d.ins k (startS d) R∧match R with
 | .error x=>r=some ((x.1:Int),(p:Int),(x.2:Int))
 | .ok s=>(∃ i:Nat,LeastRd s (EE d) i∧r=some (14,(p:Int),(i:Int)))∨((∀ i:Nat,(∃ x,s.st[i]?=some (some x))→¬ TJ.Cyc (EE d) i)∧r=none)
theorem LeastRd.uniq {s:WkS}{E:Nat→List Nat}{i j:Nat} (h:LeastRd s E i) (h':LeastRd s E j):i=j:=by
 rcases Nat.lt_trichotomy i j with hl|hl|hl
 ·exact absurd h.2.1 (h'.2.2 i hl h.1)
 ·exact hl
 ·exact absurd h'.2.1 (h.2.2 j hl h'.1)
theorem WF.uniq {c:List FD}{p:Nat}{d:FD}{r r':Option F3} (h:WF c p d r) (h':WF c p d r'):r=r':=by
 obtain ⟨k,R,h1,h2⟩:=h
 obtain ⟨k',R',h3,h4⟩:=h'
 obtain ⟨rfl,rfl⟩:=Runs.uniq h1 h3
 cases R with
 | error x=>exact h2.trans h4.symm
 | ok s =>
  rcases h2 with ⟨i,a1,a2⟩|⟨a1,a2⟩ <;> rcases h4 with ⟨j,b1,b2⟩|⟨b1,b2⟩
  ·rw[a2,b2,a1.uniq b1]
  ·exact absurd a1.2.1 (b1 i a1.1)
  ·exact absurd b1.2.1 (a1 j b1.1)
  ·rw[a2,b2]
def CkF (c:List FD):Nat→List FD→F3→Prop
 | _,[],r=>r=(0,0,0)
 | p,d::ds,r=>WF c p d (some r)∨(WF c p d none∧CkF c (p+1) ds r)
theorem CkF.uniq {c:List FD}:∀ {ds:List FD}{p:Nat}{r r':F3},CkF c p ds r→CkF c p ds r'→r=r'
 | [],p,r,r',h,h'=>h.trans h'.symm
 | d::ds,p,r,r',h,h'=>by
  rcases h with h|⟨h1,h2⟩ <;> rcases h' with h'|⟨h3,h4⟩
  ·exact Option.some.inj (h.uniq h')
  ·cases h.uniq h3
  ·cases h1.uniq h'
  ·exact CkF.uniq h2 h4
def CkR (c:List FD) (r:F3):Prop:=if (shapeV c).1=0 then CkF c 0 c r else r=shapeV c
theorem CkR.uniq {c:List FD}{r r':F3} (h:CkR c r) (h':CkR c r'):r=r':=by
 unfold CkR at h h'
 split at h
 ·rename_i e;rw[if_pos e] at h';exact CkF.uniq h h'
 ·rename_i e;rw[if_neg e] at h';exact h.trans h'.symm
end Go.Proofs.YtfejmalmnjmanaaGreatDoor
