import Derived.Test.YtfejmalmnjmanaaGreatDoorS07
set_option linter.unusedVariables false
set_option linter.unusedSimpArgs false
set_option maxRecDepth 20000
set_option maxHeartbeats 8000000
namespace Go.Proofs.YtfejmalmnjmanaaGreatDoor
open Go.RowKit
def TyAt (w:World) (g cap:Nat) (ts:List Int):Prop:=∃ cur:Array Value,w.heap[g]?=some (.cells cur 3)∧ts.length≤cap∧cur.size=cap∧∀ i,i<ts.length→cur[i]?=some (.int .i64 (ts.getD i 0))
theorem TyAt.cell {w:World}{g cap:Nat}{ts:List Int} (h:TyAt w g cap ts) {i:Nat} (hi:i<ts.length):w.cell? ⟨g,i,none⟩=some (.int .i64 (ts.getD i 0)):=by
 obtain ⟨cur,h1,_,_,h2⟩:=h
 rw[qAz h1];exact h2 i hi
theorem TyAt.froz {w:World}{g cap:Nat}{ts:List Int} (h:TyAt w g cap ts) (i:Nat):w.frozen? ⟨g,i,none⟩=false:=by
 obtain ⟨cur,h1,_⟩:=h
 exact qGz h1 i
theorem TyAt.lt {w:World}{g cap:Nat}{ts:List Int} (h:TyAt w g cap ts):g<w.heap.size:=by
 obtain ⟨cur,h1,_⟩:=h
 exact blk_lt h1
theorem TyAt.later {w wx:World}{g cap:Nat}{ts:List Int} (hb:Below w.heap.size w wx) (h:TyAt w g cap ts):TyAt wx g cap ts:=by
 obtain ⟨cur,h1,h2⟩:=h
 exact ⟨cur,qBz hb h1,h2⟩
theorem TyAt.set {w:World}{g cap:Nat}{ts:List Int} (h:TyAt w g cap ts) (i:Nat) (z:Int):TyAt (w.setCell ⟨g,i,none⟩ (.int .i64 z)) g cap (ts.set i z):=by
 obtain ⟨cur,h1,h2,h3,h4⟩:=h
 refine ⟨cur.setIfInBounds i (.int .i64 z),qLz h1 i _,by rw[List.length_set];exact h2,by simpa using h3,fun j hj=>?_⟩
 rw[List.length_set] at hj
 rw[Array.getElem?_setIfInBounds]
 by_cases hij:i=j
 ·subst hij
  rw[if_pos rfl,if_pos (by omega),List.getD_eq_getElem?_getD,List.getElem?_set_self hj];rfl
 ·rw[if_neg hij,h4 j hj,List.getD_eq_getElem?_getD,List.getD_eq_getElem?_getD,List.getElem?_set_ne hij]
theorem TyAt.other {w:World}{g cap k:Nat}{ts:List Int} (h:TyAt w g cap ts) (hk:k≠g) (j:Nat) (v:Value):TyAt (w.setCell ⟨k,j,none⟩ v) g cap ts:=by
 obtain ⟨cur,h1,h2⟩:=h
 exact ⟨cur,qFz h1 hk j v,h2⟩
structure But (g:Nat) (w w':World):Prop where
 os:w'.os=w.os
 tape:w'.tape=w.tape
 output:w'.output=w.output
 size:w.heap.size≤w'.heap.size
 block:∀ k,k<w.heap.size→k≠g→w'.heap[k]?=w.heap[k]?
theorem But.of_below {g:Nat}{w w':World} (h:Below w.heap.size w w'):But g w w':=⟨h.os,h.tape,h.output,h.size,fun k hk _=>h.block k hk⟩
theorem But.set {g:Nat}{w w':World} (h:But g w w') (j:Nat) (v:Value):But g w (w'.setCell ⟨g,j,none⟩ v) :=
 ⟨h.os,h.tape,h.output,by simpa using h.size,fun k hk hg=>by rw[Below.heap_setCell _ _ _ _ (by simpa using hg)];exact h.block k hk hg⟩
theorem But.alloc {g:Nat}{w w':World} (h:But g w w') (o:Obj):But g w (w'.alloc o) :=
 ⟨h.os,h.tape,h.output,by have:=h.size;simp;omega,fun k hk hg=>by have hs:=h.size;show (w'.heap.push o)[k]?=_;rw[Array.getElem?_push,if_neg (by omega)];exact h.block k hk hg⟩
theorem But.below {g B:Nat}{w0 w w':World} (h0:Below B w0 w) (h:But g w w') (hB:B≤g) (hs:B≤w.heap.size):Below B w0 w' :=
 ⟨h.os.trans h0.os,h.tape.trans h0.tape,h.output.trans h0.output,Nat.le_trans h0.size h.size,fun k hk=>(h.block k (by omega) (by omega)).trans (h0.block k hk)⟩
theorem write_any (n:ID) (g cap:Nat) (ts:List Int) (w:World) (ht:TyAt w g cap ts) (h0:1≤n.op) (h1:n.op≤42) (hl:ts.length≤250)
  (ha:rl n.op 0=1∨n.op=42→0≤n.a∧n.a<ts.length) (hb:n.op=40→0≤n.a∧n.a+1<ts.length) (hc:n.op=41→0≤n.c∧n.c<ts.length) :
  Calls Tryz.prog 39 #[IV n,.slice (some ⟨g,0,none⟩) ts.length cap] w fun e w'=>e=.returned (.tuple #[])∧TyAt w' g cap (writeV n ts)∧But g w w':=by
 have HT:Hid (TyAt w g cap ts):=ht
 have hglt:=ht.lt
 by_cases e6:n.op=6
 ·skip
  obtain ⟨x0,x1⟩:=ha (.inl (by rw[e6];rfl))
  obtain ⟨i,hi⟩:∃ i:Nat,n.a=i:=⟨n.a.toNat,by omega⟩
  obtain ⟨op,na,nb,nc,nd⟩:=n
  simp only at e6 hi x1
  subst e6 hi
  have hil:i<ts.length:=by omega
  have hy:=bw1 w (.cells #[.int .i64 6,.int .i64 i,.int .i64 nb,.int .i64 nc,.int .i64 nd] 77)
  have c:=(ht.later hy).cell hil
  have z:=(ht.later hy).froz
  have hw:writeV ⟨6,(i:Int),nb,nc,nd⟩ ts=ts.set i 2:=by unfold writeV;simp
  have HW:Hid _:=hw
  clear ha hb hc ht h0 h1 x0 x1 hw
  go_enter Tryz.func39,Tryz.ntmps39
  go_wp2_with fail
  refine bodyPost_end (v:=.tuple #[]) (by simp[results,Tryz.results39,go_sem]) rfl ⟨rfl,?_,?_⟩
  ·rw[HW.out];exact TyAt.later (bw1 _ _) (HT.out.set (i) 2)
  ·exact ((But.of_below (Below.refl _ _)).set (i) (.int .i64 2)).alloc _
 by_cases e22:n.op=22
 ·skip
  obtain ⟨x0,x1⟩:=ha (.inl (by rw[e22];rfl))
  obtain ⟨i,hi⟩:∃ i:Nat,n.a=i:=⟨n.a.toNat,by omega⟩
  obtain ⟨op,na,nb,nc,nd⟩:=n
  simp only at e22 hi x1
  subst e22 hi
  have hil:i<ts.length:=by omega
  have hy:=bw1 w (.cells #[.int .i64 22,.int .i64 i,.int .i64 nb,.int .i64 nc,.int .i64 nd] 77)
  have c:=(ht.later hy).cell hil
  have z:=(ht.later hy).froz
  have hw:writeV ⟨22,(i:Int),nb,nc,nd⟩ ts=ts.set i 3:=by unfold writeV;simp
  have HW:Hid _:=hw
  clear ha hb hc ht h0 h1 x0 x1 hw
  go_enter Tryz.func39,Tryz.ntmps39
  go_wp2_with fail
  refine bodyPost_end (v:=.tuple #[]) (by simp[results,Tryz.results39,go_sem]) rfl ⟨rfl,?_,?_⟩
  ·rw[HW.out];exact TyAt.later (bw1 _ _) (HT.out.set (i) 3)
  ·exact ((But.of_below (Below.refl _ _)).set (i) (.int .i64 3)).alloc _
 by_cases e27:n.op=27
 ·skip
  obtain ⟨x0,x1⟩:=ha (.inl (by rw[e27];rfl))
  obtain ⟨i,hi⟩:∃ i:Nat,n.a=i:=⟨n.a.toNat,by omega⟩
  obtain ⟨op,na,nb,nc,nd⟩:=n
  simp only at e27 hi x1
  subst e27 hi
  have hil:i<ts.length:=by omega
  have hy:=bw1 w (.cells #[.int .i64 27,.int .i64 i,.int .i64 nb,.int .i64 nc,.int .i64 nd] 77)
  have c:=(ht.later hy).cell hil
  have z:=(ht.later hy).froz
  have hw:writeV ⟨27,(i:Int),nb,nc,nd⟩ ts=ts.set i 3:=by unfold writeV;simp
  have HW:Hid _:=hw
  clear ha hb hc ht h0 h1 x0 x1 hw
  go_enter Tryz.func39,Tryz.ntmps39
  go_wp2_with fail
  refine bodyPost_end (v:=.tuple #[]) (by simp[results,Tryz.results39,go_sem]) rfl ⟨rfl,?_,?_⟩
  ·rw[HW.out];exact TyAt.later (bw1 _ _) (HT.out.set (i) 3)
  ·exact ((But.of_below (Below.refl _ _)).set (i) (.int .i64 3)).alloc _
 by_cases e28:n.op=28
 ·skip
  obtain ⟨x0,x1⟩:=ha (.inl (by rw[e28];rfl))
  obtain ⟨i,hi⟩:∃ i:Nat,n.a=i:=⟨n.a.toNat,by omega⟩
  obtain ⟨op,na,nb,nc,nd⟩:=n
  simp only at e28 hi x1
  subst e28 hi
  have hil:i<ts.length:=by omega
  have hy:=bw1 w (.cells #[.int .i64 28,.int .i64 i,.int .i64 nb,.int .i64 nc,.int .i64 nd] 77)
  have c:=(ht.later hy).cell hil
  have z:=(ht.later hy).froz
  have hw:writeV ⟨28,(i:Int),nb,nc,nd⟩ ts=ts.set i 3:=by unfold writeV;simp
  have HW:Hid _:=hw
  clear ha hb hc ht h0 h1 x0 x1 hw
  go_enter Tryz.func39,Tryz.ntmps39
  go_wp2_with fail
  refine bodyPost_end (v:=.tuple #[]) (by simp[results,Tryz.results39,go_sem]) rfl ⟨rfl,?_,?_⟩
  ·rw[HW.out];exact TyAt.later (bw1 _ _) (HT.out.set (i) 3)
  ·exact ((But.of_below (Below.refl _ _)).set (i) (.int .i64 3)).alloc _
 by_cases e40:n.op=40
 ·skip
  obtain ⟨x0,x1⟩:=hb e40
  obtain ⟨i,hi⟩:∃ i:Nat,n.a=i:=⟨n.a.toNat,by omega⟩
  obtain ⟨op,na,nb,nc,nd⟩:=n
  simp only at e40 hi x1
  subst e40 hi
  have hil:i+1<ts.length:=by omega
  have hy:=bw1 w (.cells #[.int .i64 40,.int .i64 i,.int .i64 nb,.int .i64 nc,.int .i64 nd] 77)
  have c:=(ht.later hy).cell hil
  have z:=(ht.later hy).froz
  have hw:writeV ⟨40,(i:Int),nb,nc,nd⟩ ts=ts.set (i+1) 1:=by unfold writeV;rw[if_neg (by simp),if_neg (by simp),if_pos rfl,show ((i:Int)+1).toNat=i+1 by omega]
  have HW:Hid _:=hw
  clear ha hb hc ht h0 h1 x0 x1 hw
  go_enter Tryz.func39,Tryz.ntmps39
  go_wp2_with fail
  refine bodyPost_end (v:=.tuple #[]) (by simp[results,Tryz.results39,go_sem]) rfl ⟨rfl,?_,?_⟩
  ·rw[HW.out];exact TyAt.later (bw1 _ _) (HT.out.set (i+1) 1)
  ·exact ((But.of_below (Below.refl _ _)).set (i+1) (.int .i64 1)).alloc _
 by_cases e42:n.op=42
 ·skip
  obtain ⟨x0,x1⟩:=ha (.inr e42)
  obtain ⟨i,hi⟩:∃ i:Nat,n.a=i:=⟨n.a.toNat,by omega⟩
  obtain ⟨op,na,nb,nc,nd⟩:=n
  simp only at e42 hi x1
  subst e42 hi
  have hil:i<ts.length:=by omega
  have hy:=bw1 w (.cells #[.int .i64 42,.int .i64 i,.int .i64 nb,.int .i64 nc,.int .i64 nd] 77)
  have c:=(ht.later hy).cell hil
  have z:=(ht.later hy).froz
  have hw:writeV ⟨42,(i:Int),nb,nc,nd⟩ ts=ts.set i 0:=by unfold writeV;simp
  have HW:Hid _:=hw
  clear ha hb hc ht h0 h1 x0 x1 hw
  go_enter Tryz.func39,Tryz.ntmps39
  go_wp2_with fail
  refine bodyPost_end (v:=.tuple #[]) (by simp[results,Tryz.results39,go_sem]) rfl ⟨rfl,?_,?_⟩
  ·rw[HW.out];exact TyAt.later (bw1 _ _) (HT.out.set (i) 0)
  ·exact ((But.of_below (Below.refl _ _)).set (i) (.int .i64 0)).alloc _
 by_cases e41:n.op=41
 ·skip
  obtain ⟨x0,x1⟩:=hc e41
  obtain ⟨i,hi⟩:∃ i:Nat,n.c=i:=⟨n.c.toNat,by omega⟩
  obtain ⟨op,na,nb,nc,nd⟩:=n
  simp only at e41 hi x1
  subst e41 hi
  have hil:i<ts.length:=by omega
  have hy:=bw1 w (.cells #[.int .i64 41,.int .i64 na,.int .i64 nb,.int .i64 i,.int .i64 nd] 77)
  have c:=(ht.later hy).cell hil
  have z:=(ht.later hy).froz
  have hw:writeV ⟨41,na,nb,(i:Int),nd⟩ ts=ts.set i 3:=by unfold writeV;simp
  have HW:Hid _:=hw
  clear ha hb hc ht h0 h1 x0 x1 hw
  go_enter Tryz.func39,Tryz.ntmps39
  go_wp2_with fail
  refine bodyPost_end (v:=.tuple #[]) (by simp[results,Tryz.results39,go_sem]) rfl ⟨rfl,?_,?_⟩
  ·rw[HW.out];exact TyAt.later (bw1 _ _) (HT.out.set (i) 3)
  ·exact ((But.of_below (Below.refl _ _)).set (i) (.int .i64 3)).alloc _
 have f6:(n.op==6)=false:=by simpa using e6
 have f22:(n.op==22)=false:=by simpa using e22
 have f27:(n.op==27)=false:=by simpa using e27
 have f28:(n.op==28)=false:=by simpa using e28
 have f40:(n.op==40)=false:=by simpa using e40
 have f42:(n.op==42)=false:=by simpa using e42
 have f41:(n.op==41)=false:=by simpa using e41
 by_cases hrl:rl n.op 0=1
 ·obtain ⟨x0,x1⟩:=ha (.inl hrl)
  obtain ⟨i,hi⟩:∃ i:Nat,n.a=i:=⟨n.a.toNat,by omega⟩
  have hw:writeV n ts=ts.set i 1:=by unfold writeV;rw[if_neg e6,if_neg (by omega),if_neg e40,if_neg e42,if_neg e41,if_pos hrl,hi];rfl
  have HW:Hid _:=hw
  have hrl':(rl n.op 0==1)=true:=by simpa using hrl
  obtain ⟨op,na,nb,nc,nd⟩:=n
  simp only at hi x1 h0 h1 f6 f22 f27 f28 f40 f41 f42 hrl' HW
  subst hi
  have hil:i<ts.length:=by omega
  have hy:=bw2 w (.cells #[.int .i64 op,.int .i64 i,.int .i64 nb,.int .i64 nc,.int .i64 nd] 77) (RO op)
  have c:=(ht.later hy).cell hil
  have z:=(ht.later hy).froz
  clear ha hb hc ht x0 x1 hw e6 e22 e27 e28 e40 e41 e42 hrl
  go_enter Tryz.func39,Tryz.ntmps39
  go_wp2_with (go_at_call 66;refine (roles_in _ _ h0 h1).mono ?_;rintro e w' ⟨rfl,rfl⟩)
  refine bodyPost_end (v:=.tuple #[]) (by simp[results,Tryz.results39,go_sem]) rfl ⟨rfl,?_,?_⟩
  ·rw[HW.out];exact TyAt.later (bw2 _ _ _) (HT.out.set i 1)
  ·exact (((But.of_below (Below.refl _ _)).set i (.int .i64 1)).alloc _).alloc _
 ·have hw:writeV n ts=ts:=by unfold writeV;rw[if_neg e6,if_neg (by omega),if_neg e40,if_neg e42,if_neg e41,if_neg hrl]
  have HW:Hid _:=hw
  have hrl':(rl n.op 0==1)=false:=by simpa using hrl
  clear ha hb hc ht hw e6 e22 e27 e28 e40 e41 e42 hrl
  go_enter Tryz.func39,Tryz.ntmps39
  go_wp2_with (go_at_call 66;refine (roles_in _ _ h0 h1).mono ?_;rintro e w' ⟨rfl,rfl⟩)
  refine bodyPost_end (v:=.tuple #[]) (by simp[results,Tryz.results39,go_sem]) rfl ⟨rfl,?_,?_⟩
  ·rw[HW.out];exact HT.out.later (bw2 _ _ _)
  ·exact But.of_below (bw2 _ _ _)
theorem app_where (st et:TypeId) (k by':Nat) (hu:Tryz.prog.underlying st=some (.slice et)) (hc:(Tryz.prog.info? et).map (fun i=>(i.zero.map (fun z=>z.cells.size),i.size,i.bytes))=some (some k,k,by')) (hk:0<k) (hby:by'≤1000)
  (base:Nat) (w:World) (sv:Value) (n:Nat) (xs news:List Value) (nb:Nat) (ty:TypeId) (ho:w.ownsRow base et k sv n xs) (hn:w.heap[nb]?=some (.cells news.toArray et)) (hl:news.length=k) (h1:∀ u∈news,u.oneCell'=true) (hlen:n≤2000000)
  {g' n' cap':Nat}{w':World} (hr:(Builtin.append_ #[st,st] ty #[sv,.slice (some ⟨nb,0,none⟩) 1 1]).run Tryz.prog w=.ok (.slice (some ⟨g',0,none⟩) n' cap') w'):some g'=sv.ownBlock∨g'=w.heap.size:=by
 obtain ⟨i,z,hi,hz,e1,e2,e3⟩:∃ (i:TypeInfo) (z:Value),Tryz.prog.info? et=some i∧i.zero=some z∧i.size=k∧i.bytes=by'∧z.cells.size=k:=by
  cases hi:Tryz.prog.info? et with
  | none=>rw[hi] at hc;cases hc
  | some i =>
   rw[hi] at hc
   simp only[Option.map_some,Option.some.injEq,Prod.mk.injEq] at hc
   obtain ⟨h1,h2,h3⟩:=hc
   cases hz:i.zero with
   | none=>rw[hz] at h1;cases h1
   | some z=>rw[hz] at h1;simp at h1;exact ⟨i,z,rfl,hz,h2,h3,h1⟩
 have hnews:∀ j u,news[j]?=some u→w.cell? ((⟨nb,0,none⟩:Addr).add j)=some u:=fun j u hu=>by
  rw[Addr.add_lit,Nat.zero_add,qAz hn]
  simpa using hu
 have hbb:(n+1)*by'≤2000001*1000:=Nat.mul_le_mul (by omega) hby
 subst e1 e2
 rcases ho.2 with ⟨rfl,rfl⟩|⟨g,cap,cur,rfl,hbg,hg,hnc,hcm,hcs,htake⟩
 ·have h:=run_append_nil (P:=Tryz.prog) w st ty et i z hu hi hz ⟨nb,0,none⟩ 1 1 news (by omega) hnews (by omega) (by omega) (by omega)
  rw[hr] at h
  injection h with h _
  injection h with h _ _
  cases h
  exact .inr rfl
 ·by_cases hroom:n+1≤cap
  ·have hfit:n*i.size+news.length≤cur.size:=by
    rw[hl,hcs]
    have:=Nat.mul_le_mul_right i.size hroom
    rw[Nat.add_mul,Nat.one_mul] at this
    exact this
   have h:=run_append_room (P:=Tryz.prog) w st ty et i hu hi g n cap cur hg ⟨nb,0,none⟩ 1 1 news (by omega) hnews h1 hroom hfit
   rw[hr] at h
   injection h with h _
   injection h with h _ _
   cases h
   exact .inl rfl
  ·have holds:∀ j u,xs[j]?=some u→w.cell? ((⟨g,0,none⟩:Addr).add j)=some u:=ho.cells (g:=g) rfl
   have h:=run_append_grow (P:=Tryz.prog) w st ty et i z hu hi hz ⟨g,0,none⟩ n cap xs ho.1 holds ⟨nb,0,none⟩ 1 1 news (by omega) hnews (by omega) (by omega) (growslice_fits (by omega) (by omega))
   rw[hr] at h
   injection h with h _
   injection h with h _ _
   cases h
   exact .inr rfl
def Apart (a b:Value):Prop:=∀ g,a.ownBlock=some g→b.ownBlock≠some g
theorem Apart.nil (b:Value):Apart (.slice none 0 0) b:=fun g h=>by cases h
theorem Apart.symm {a b:Value} (h:Apart a b):Apart b a:=fun g hb ha=>h g ha hb
theorem ORow.own_lt {α:Type}{w:World}{B:Nat}{et:TypeId}{k:Nat}{cells:α→List Value}{sv:Value}{xs:List α} (h:ORow w B et k cells sv xs) {g:Nat} (hg:sv.ownBlock=some g):B≤g∧g<w.heap.size:=by
 rcases h.2 with ⟨rfl,_⟩|⟨g',cap,cur,rfl,e2,e3,_⟩
 ·cases hg
 ·cases hg;exact ⟨e2,blk_lt e3⟩
theorem ORow.apart {α:Type}{w w':World}{B:Nat}{et:TypeId}{k:Nat}{cells:α→List Value}{sv tv:Value}{xs:List α} (h:ORow w B et k cells sv xs) (ha:Apart sv tv) (hg:w.grownBy w' tv.ownBlock):ORow w' B et k cells sv xs:=by
 obtain ⟨h1,h2⟩:=h
 refine ⟨h1,?_⟩
 rcases h2 with h2|⟨g,cap,cur,e1,e2,e3,e4⟩
 ·exact .inl h2
 ·subst e1
  exact .inr ⟨g,cap,cur,rfl,e2,(hg.block g (blk_lt e3) (fun e=>ha g rfl e.symm)).trans e3,e4⟩
def fldV (n:ID):List (Int × Int):=[(rl n.op 0,n.a),(rl n.op 1,n.b),(rl n.op 2,n.c),(rl n.op 3,n.d)]
def rdAll:List (Int × Int)→RdS→Option RdS
 | [],s=>some s
 | f::fs,s=>(rdStep f.1 f.2 s).bind (rdAll fs)
theorem readV_all (c:List FD) (n:ID) (ts:List Int):readV c n ts=(rdAll (fldV n) ⟨ts,[],[]⟩).bind fun s=>if n.op=11 then (if rdUps (c.getD n.b.toNat fd0).ups s.ts=true then some s else none) else some s:=by
 unfold readV fldV
 simp only[rdAll]
 cases h0:rdStep (rl n.op 0) n.a ⟨ts,[],[]⟩ with
 | none=>rfl
 | some s0 =>
  simp only[Option.bind_some]
  cases h1:rdStep (rl n.op 1) n.b s0 with
  | none=>rfl
  | some s1 =>
   simp only[Option.bind_some]
   cases h2:rdStep (rl n.op 2) n.c s1 with
   | none=>rfl
   | some s2 =>
    simp only[Option.bind_some]
    cases h3:rdStep (rl n.op 3) n.d s2 with
    | none=>rfl
    | some s3=>rfl
theorem rdAll_drop {fs:List (Int × Int)}{m:Nat}{f:Int × Int}{s:RdS}{r:Option RdS} (hf:fs[m]?=some f) (h:rdAll (fs.drop m) s=r):(rdStep f.1 f.2 s).bind (rdAll (fs.drop (m+1)))=r:=by
 obtain ⟨hlt,he⟩:=List.getElem?_eq_some_iff.1 hf
 rw[List.drop_eq_getElem_cons hlt,he] at h
 exact h
def regOk (len:Nat) (role x:Int):Prop :=
 (wantsV role).1≠0→0≤(if ((wantsV role).2&&decide (x<0))=true then -1-x else x)∧(if ((wantsV role).2&&decide (x<0))=true then -1-x else x)+(if role=18 then 2 else if role=19∨role=20 then 1 else 0)<len
structure RdI (g cap B:Nat) (W0 wr:World) (tv sv:Value) (s:RdS):Prop where
 size:W0.heap.size=B
 lt:g<B
 but:But g W0 wr
 ty:TyAt wr g cap s.ts
 ot:ORow wr B 3 1 natC tv s.taken
 os:ORow wr B 3 1 natC sv s.stay
 ap:Apart tv sv
theorem RdI.blk {g cap B:Nat}{W0 wr:World}{tv sv:Value}{s:RdS} (h:RdI g cap B W0 wr tv sv s) {b:Nat}{o:Obj} (hb:W0.heap[b]?=some o) (hg:b≠g):wr.heap[b]?=some o:=by
 rw[h.but.block b (blk_lt hb) hg];exact hb
theorem RdI.ge {g cap B:Nat}{W0 wr:World}{tv sv:Value}{s:RdS} (h:RdI g cap B W0 wr tv sv s):B≤wr.heap.size:=by
 have:=h.but.size;rw[h.size] at this;exact this
theorem RdI.set {g cap B:Nat}{W0 wr:World}{tv sv:Value}{s:RdS} (h:RdI g cap B W0 wr tv sv s) (r:Nat) (z:Int):RdI g cap B W0 (wr.setCell ⟨g,r,none⟩ (.int .i64 z)) tv sv ⟨s.ts.set r z,s.taken,s.stay⟩:=by
 have hne:∀ j arr,B≤j→wr.heap[j]?=some (.cells arr 3 (0,0))→(wr.setCell ⟨g,r,none⟩ (.int .i64 z)).heap[j]?=wr.heap[j]?:=fun j arr hj _=>Below.heap_setCell _ _ _ _ (by show j≠g;have:=h.lt;omega)
 exact ⟨h.size,h.lt,h.but.set r _,h.ty.set r z,h.ot.keep hne,h.os.keep hne,h.ap⟩
theorem RdI.alloc {g cap B:Nat}{W0 wr:World}{tv sv:Value}{s:RdS} (h:RdI g cap B W0 wr tv sv s) (o:Obj):RdI g cap B W0 (wr.alloc o) tv sv s :=
 ⟨h.size,h.lt,h.but.alloc o,h.ty.later (bw1 _ _),h.ot.later (bw1 _ _),h.os.later (bw1 _ _),h.ap⟩
theorem But.grown {g B:Nat}{W0 w w':World} (h:But g W0 w) (hs:W0.heap.size=B) {tv:Value} (ht:∀ b,tv.ownBlock=some b→B≤b) (hg:w.grownBy w' tv.ownBlock):But g W0 w' :=
 ⟨hg.os.trans h.os,hg.tape.trans h.tape,hg.output.trans h.output,Nat.le_trans h.size hg.size,fun k hk hne=>(hg.block k (Nat.lt_of_lt_of_le hk h.size) (fun e=>by have:=ht k e.symm;omega)).trans (h.block k hk hne)⟩
theorem TyAt.grown {w w':World}{g cap B:Nat}{ts:List Int} (h:TyAt w g cap ts) (hB:g<B) {tv:Value} (ht:∀ b,tv.ownBlock=some b→B≤b) (hg:w.grownBy w' tv.ownBlock):TyAt w' g cap ts:=by
 have hl:=h.lt
 obtain ⟨cur,h1,h2⟩:=h
 exact ⟨cur,(hg.block g hl (fun e=>by have:=ht g e.symm;omega)).trans h1,h2⟩
theorem RdI.take {g cap B:Nat}{W0 wr:World}{tv sv:Value}{s:RdS} (h:RdI g cap B W0 wr tv sv s) (r:Nat) (hl:s.taken.length≤1000) :
  ∃ g' cap' w2,(Builtin.append_ #[55,55] 55 #[tv,.slice (some ⟨wr.heap.size,0,none⟩) 1 1]).run Tryz.prog (wr.alloc (.cells #[.int .i64 (r:Int)] 3))=.ok (.slice (some ⟨g',0,none⟩) (s.taken.length+1) cap') w2 ∧
   RdI g cap B W0 w2 (.slice (some ⟨g',0,none⟩) (s.taken.length+1) cap') sv ⟨s.ts,s.taken++[r],s.stay⟩:=by
 have h':=h.alloc (.cells #[.int .i64 (r:Int)] 3)
 have hge:=h.ge
 obtain ⟨g',cap',w2,hr,ho2,hg⟩:=h'.ot.app 55 8 Tryz.underlying55 (by kernel_rfl) (by omega) (by omega) r wr.heap.size 55 (qKz _ _) rfl (by intro u hu;simp[natC] at hu;subst hu;rfl) (by omega) (by simp;omega)
 have hown:∀ b,tv.ownBlock=some b→B≤b:=fun b hb=>(h'.ot.own_lt hb).1
 have hw:=app_where 55 3 1 8 Tryz.underlying55 (by kernel_rfl) (by omega) (by omega) B _ tv _ _ (natC r) wr.heap.size 55 h'.ot (qKz _ _) rfl (by intro u hu;simp[natC] at hu;subst hu;rfl) (by omega) hr
 refine ⟨g',cap',w2,hr,h.size,h.lt,h'.but.grown h.size hown hg,h'.ty.grown h.lt hown hg,ho2,h'.os.apart h'.ap.symm hg,?_⟩
 intro b hb hs
 cases hb
 rcases hw with hw|hw
 ·exact h.ap g' hw.symm hs
 ·have h9:g'<wr.heap.size:=(h.os.own_lt (g:=g') hs).2
  simp at hw
  omega
theorem RdI.stays {g cap B:Nat}{W0 wr:World}{tv sv:Value}{s:RdS} (h:RdI g cap B W0 wr tv sv s) (r:Nat) (hl:s.stay.length≤1000) :
  ∃ g' cap' w2,(Builtin.append_ #[55,55] 55 #[sv,.slice (some ⟨wr.heap.size,0,none⟩) 1 1]).run Tryz.prog (wr.alloc (.cells #[.int .i64 (r:Int)] 3))=.ok (.slice (some ⟨g',0,none⟩) (s.stay.length+1) cap') w2 ∧
   RdI g cap B W0 w2 tv (.slice (some ⟨g',0,none⟩) (s.stay.length+1) cap') ⟨s.ts,s.taken,s.stay++[r]⟩:=by
 obtain ⟨g',cap',w2,hr,h2⟩:=(RdI.mk (s:=⟨s.ts,s.stay,s.taken⟩) h.size h.lt h.but h.ty h.os h.ot h.ap.symm).take r hl
 exact ⟨g',cap',w2,hr,h2.size,h2.lt,h2.but,h2.ty,h2.os,h2.ot,h2.ap.symm⟩
end Go.Proofs.YtfejmalmnjmanaaGreatDoor
