import Derived.Test.YtliahjnnbbgooaaGreatDoorP33
import Derived.Laws.StructEq
import Derived.Maps.Own
import Derived.Deep.RegionWith
import Derived.RegionTactic
import Derived.ArgAppend
import Derived.Deep.CutRange
import Derived.Deep.RegionLaw
import Derived.Test.YtliahjnnbbgooaaGreatDoorP13
import Derived.Test.YtliahjnnbbgooaaGreatDoorP14
import Derived.Test.YtliahjnnbbgooaaGreatDoorP02
import Derived.Deep.QuietTactic
import Derived.BigQuiet
set_option linter.unusedVariables false
set_option linter.unusedSimpArgs false
set_option maxRecDepth 20000
set_option maxHeartbeats 8000000
namespace Go.Proofs.YtliahjnnbbgooaaGreatDoor.J
open Go.RowKit M T U
attribute [local go_sem] run_store_float
structure PD where
 key:VD
 val:VD
 turn:Int
def PD.cells (p:PD):List Value:=p.key.cells++(p.val.cells++[.int .i64 p.turn])
abbrev PVal (p:PD):Value:=.agg #[.int .i64 p.key.k,.int .i64 p.key.n,.float .f64 p.key.f,.string p.key.s,.int .i64 p.key.r,.int .i64 p.val.k,.int .i64 p.val.n,.float .f64 p.val.f,.string p.val.s,.int .i64 p.val.r,.int .i64 p.turn]
theorem heap3 (w:World) (o p q:Obj):(((w.alloc o).alloc p).alloc q).heap[w.heap.size]?=some o∧(((w.alloc o).alloc p).alloc q).heap[w.heap.size+1]?=some p∧(((w.alloc o).alloc p).alloc q).heap[w.heap.size+1+1]?=some q:=by
 refine⟨?_,?_,?_⟩
 ·show (((w.heap.push _).push _).push _)[w.heap.size]?=_
  simp only[Array.getElem?_push,Array.size_push]
  rw[if_neg (by omega),if_neg (by omega),if_pos trivial]
 ·show (((w.heap.push _).push _).push _)[w.heap.size+1]?=_
  simp only[Array.getElem?_push,Array.size_push]
  rw[if_neg (by omega),if_pos trivial]
 ·show (((w.heap.push _).push _).push _)[w.heap.size+1+1]?=_
  simp only[Array.getElem?_push,Array.size_push]
  rw[if_pos trivial]
def eqb (a b:VD):Bool:=(a.k == b.k) && ((a.n == b.n) && ((FloatKind.f64.format.order a.f b.f == some .eq) && ((a.s.toList == b.s.toList) && (a.r == b.r))))
abbrev _root_.Go.Proofs.YtliahjnnbbgooaaGreatDoor.VD.v (a:VD):Value:=VV a.k a.n a.f a.s a.r
theorem und_value:Tryz.prog.underlying 49=some (.struct #[{ name:= "Kind",type:=3,offset:=0,embedded:=false,tag:= "",pkgPath:= "",byteOffset:=0 },{ name:= "Num",type:=2,offset:=1,embedded:=false,tag:= "",pkgPath:= "",byteOffset:=8 },{ name:= "Flt",type:=47,offset:=2,embedded:=false,tag:= "",pkgPath:= "",byteOffset:=16 },{ name:= "Str",type:=9,offset:=3,embedded:=false,tag:= "",pkgPath:= "",byteOffset:=24 },{ name:= "Ref",type:=3,offset:=4,embedded:=false,tag:= "",pkgPath:= "",byteOffset:=40 }]):=by kernel_rfl
theorem run_eqv (a b:VD) (w:World) (d:Nat):(Op.equalIn (d+1+1) 49 a.v b.v).run Tryz.prog w=.ok (eqb a b) w:=by
 rw[run_equalIn_struct w (d+1) 49 _ _ (by kernel_rfl) (by kernel_rfl)]
 have hF:(Tryz.prog.fieldsOf 49).toList=[{ name:= "Kind",type:=3,offset:=0,embedded:=false,tag:= "",pkgPath:= "",byteOffset:=0 },{ name:= "Num",type:=2,offset:=1,embedded:=false,tag:= "",pkgPath:= "",byteOffset:=8 },{ name:= "Flt",type:=47,offset:=2,embedded:=false,tag:= "",pkgPath:= "",byteOffset:=16 },{ name:= "Str",type:=9,offset:=3,embedded:=false,tag:= "",pkgPath:= "",byteOffset:=24 },{ name:= "Ref",type:=3,offset:=4,embedded:=false,tag:= "",pkgPath:= "",byteOffset:=40 }]:=by kernel_rfl
 rw[hF]
 simp[Op.eqFields,go_sem,run_equalIn_float,eqb]
 by_cases h1:a.k=b.k
 ·by_cases h2:a.n=b.n
  ·by_cases h3:FloatKind.f64.format.order a.f b.f=some .eq
   ·by_cases h4:a.s.toList=b.s.toList
    ·by_cases h5:a.r=b.r
     ·simp[h1,h2,h3,h4,h5]
     ·simp[h1,h2,h3,h4,h5]
    ·simp[h1,h2,h3,h4]
   ·simp[h1,h2,h3]
  ·simp[h1,h2]
 ·simp[h1]
theorem run_check (a:VD) (em:Bool) (w:World) (d:Nat):(Instr.checkKey em (d+1+1) 49 a.v).run Tryz.prog w=.ok () w:=by
 rw[Instr.checkKey]
 simp only[Sem.run_bind,run_underlying und_value,Result.andThen_ok]
 rw[←Array.forIn_toList]
 simp[List.forIn_cons,Instr.checkKey,go_sem]
def eidx (q:VD):List PD→Nat→Int
 | [],_=>-1
 | p :: ps,i=>if eqb q p.key=true then (i:Int) else eidx q ps (i+1)
def Ents (es:List MapEntry) (ps:List PD) (i:Nat):Prop:=es.length=ps.length∧∀(j:Nat) (p:PD) (e:MapEntry),ps[j]?=some p→es[j]?=some e→e.key=p.key.v∧e.val=.int .i64 ((i+j:Nat):Int)
theorem Ents.tail {e:MapEntry} {es:List MapEntry} {p:PD} {ps:List PD} {i:Nat} (h:Ents (e :: es) (p :: ps) i):e.key=p.key.v∧e.val=.int .i64 (i:Int)∧Ents es ps (i+1):=by
 obtain⟨h1,h2⟩:=h
 obtain⟨h3,h4⟩:=h2 0 p e rfl rfl
 refine⟨h3,by simpa using h4,by simpa using h1,fun j p' e' hp he=>?_⟩
 obtain⟨h5,h6⟩:=h2 (j+1) p' e' (by simpa using hp) (by simpa using he)
 exact⟨h5,by rw[h6];congr 2;omega⟩
theorem eidx_cases (q:VD) (ps:List PD) (i:Nat):eidx q ps i=-1∨∃m:Nat,eidx q ps i=((i+m:Nat):Int)∧m<ps.length:=by
 induction ps generalizing i with
 | nil=>exact .inl rfl
 | cons p ps ih =>
  unfold eidx
  split
  ·exact .inr ⟨0,by simp,by simp⟩
  ·rcases ih (i+1) with h | ⟨m,h1,h2⟩
   ·exact .inl h
   ·exact .inr ⟨m+1,by rw[h1];congr 1;omega,by simp;omega⟩
theorem run_ask (q:VD) (w:World) (ps:List PD):∀(es:List MapEntry) (i k:Nat),Ents es ps i →
  (Instr.findAsking 49 q.v es k).run Tryz.prog w=.ok (if eidx q ps i<0 then none else some (k+(eidx q ps i).toNat-i,.int .i64 (eidx q ps i))) w:=by
 induction ps with
 | nil =>
  intro es i k h
  obtain rfl:es=[]:=List.length_eq_zero_iff.1 h.1
  simp[Instr.findAsking,eidx]
 | cons p ps ih =>
  intro es i k h
  match es,h with
  | [],h=>exact absurd h.1 (by simp)
  | e :: es,h =>
   obtain⟨h1,h2,h3⟩:=h.tail
   have hq:(Op.equal 49 q.v e.key).run Tryz.prog w=.ok (eqb q p.key) w:=by
    rw[h1];exact run_eqv q p.key w 9998
   rw[Instr.findAsking]
   simp only[Sem.run_bind,hq,Result.andThen_ok]
   by_cases hb:eqb q p.key=true
   ·simp[hb,eidx,h2]
   ·have hb':eqb q p.key=false:=by simpa using hb
    have:=ih es (i+1) (k+1) h3
    simp only[hb',eidx,Bool.false_eq_true,if_false]at this ⊢
    rw[this]
    rcases eidx_cases q ps (i+1) with h0 | ⟨m,h0,_⟩
    ·simp[h0]
    ·rw[h0]
     have:¬(((i+1+m:Nat):Int)<0):=by omega
     rw[if_neg this,if_neg this]
     congr 3
     simp
     omega
theorem run_find (q:VD) (w:World) (ps:List PD) (es:List MapEntry) (h:Ents es ps 0) :
  (Instr.findKey 49 q.v es).run Tryz.prog w=.ok (if eidx q ps 0<0 then none else some ((eidx q ps 0).toNat,.int .i64 (eidx q ps 0))) w:=by
 have ha:=run_ask q w ps es 0 0 h
 simp only[Nat.zero_add,Nat.sub_zero]at ha
 unfold Instr.findKey
 simp only[Sem.run_bind,run_underlying und_value,Result.andThen_ok]
 match es,h,ha with
 | [],h,ha =>
  obtain rfl:ps=[]:=List.length_eq_zero_iff.1 h.1.symm
  simp[Instr.findNow,eidx]
 | e :: es,h,ha=>simpa [Instr.findNow,Instr.sameNow] using ha
def MapAt (w:World) (mb:Nat) (ps:List PD):Prop:=∃es clock,w.heap[mb]?=some (.map es clock)∧Ents es.toList ps 0
theorem run_look (q:VD) (w:World) (mb:Nat) (ps:List PD) (h:MapAt w mb ps) :
  (Instr.lookup 317 (.map (some mb)) q.v true).run Tryz.prog w=.ok (.tuple #[.int .i64 (if eidx q ps 0<0 then 0 else eidx q ps 0),.bool (!decide (eidx q ps 0<0))]) w:=by
 obtain⟨es,clock,hb,he⟩:=h
 unfold Instr.lookup
 have hz:(zeroValue 3).run Tryz.prog w=.ok (.int .i64 0) w:=by kernel_rfl
 simp only[Sem.run_bind,run_underlying Tryz.underlying317,Result.andThen_ok,MapKept.run_getObj_map hb,run_check q es.isEmpty w 9998,run_find q w ps es.toList he,Sem.run_pure]
 by_cases h0:eidx q ps 0<0
 ·simp[h0,hz]
 ·simp[h0]
theorem m_key (d:Nat) (v:Value) (w:World):(method (d+1) 253 v "loop.example/punch/impl.key").run Tryz.prog w=.ok (382,v) w:=by kernel_rfl
theorem ikey_any (p:PD) (w:World):Calls Tryz.prog 382 #[PVal p] w fun e w'=>e=.returned p.key.v∧Below w.heap.size w w':=by
 go_enter Tryz.func382,Tryz.ntmps382
 go_wp2
 exact bodyPost_ret (v:=p.key.v) (by simp[results,Tryz.results382,go_sem]) rfl ⟨rfl,bw2 _ _ _⟩
theorem MapAt.later {w wx:World} {mb:Nat} {ps:List PD} (hb:Below w.heap.size w wx) (h:MapAt w mb ps):MapAt wx mb ps:=by
 obtain⟨es,clock,h1,h2⟩:=h
 exact⟨es,clock,(hb.block mb (Array.getElem?_eq_some_iff.1 h1).1).trans h1,h2⟩
theorem MapAt.drew {w:World} {mb:Nat} {ps:List PD} (h:MapAt w mb ps):MapAt w.drew mb ps:=h
theorem boxv (w:World) (q:VD) (t:TypeId):∃w1,w1=w.alloc (.cells #[.int .i64 q.k,.int .i64 q.n,.float .f64 q.f,.string q.s,.int .i64 q.r] t)∧Below w.heap.size w w1∧w1.cell? ⟨w.heap.size,0,none⟩=some (.int .i64 q.k)∧w1.cell? ⟨w.heap.size,1,none⟩=some (.int .i64 q.n)∧w1.cell? ⟨w.heap.size,2,none⟩=some (.float .f64 q.f)∧w1.cell? ⟨w.heap.size,3,none⟩=some (.string q.s)∧w1.cell? ⟨w.heap.size,4,none⟩=some (.int .i64 q.r):=by
 refine⟨_,rfl,bw1 _ _,?_,?_,?_,?_,?_⟩<;>simp[go_sem]
theorem find_any (q:VD) (bk mb:Nat) (ps:List PD) (w:World) (hm:MapAt w mb ps) (c1:w.cell? ⟨bk,1,none⟩=some (.map (some mb))) :
  Calls Tryz.prog 209 #[.pointer (some ⟨bk,0,none⟩),q.v] w fun e w'=>e=.returned (.int .i64 (eidx q ps 0))∧Below w.heap.size w w':=by
 obtain⟨w1,hw,hb,d0,d1,d2,d3,d4⟩:=boxv w q 49
 have hlk:=run_look q w1.drew mb ps (MapAt.later hb.drew hm)
 replace c1:=cell_later hb c1
 clear hm
 by_cases h0:eidx q ps 0<0
 ·have hn:eidx q ps 0=-1:=by rcases eidx_cases q ps 0 with h | ⟨m,h,_⟩<;>omega
  rw[hn]at hlk ⊢
  replace hlk:(Instr.lookup 317 (.map (some mb)) q.v true).run Tryz.prog w1.drew=.ok (.tuple #[.int .i64 0,.bool false]) w1.drew:=hlk
  clear h0 hn
  go_enter Tryz.func209,Tryz.ntmps209
  go_wp2_with fail
  rw[←hw];clear hw
  go_region
  go_wp2_with fail
  go_ret
  exact⟨rfl,hb.drew⟩
 ·obtain⟨m,hn⟩:∃m:Int,eidx q ps 0=m:=⟨_,rfl⟩
  rw[hn]at hlk h0 ⊢
  replace hlk:(Instr.lookup 317 (.map (some mb)) q.v true).run Tryz.prog w1.drew=.ok (.tuple #[.int .i64 m,.bool true]) w1.drew:=by rw[hlk];simp[h0]
  clear h0 hn
  go_enter Tryz.func209,Tryz.ntmps209
  go_wp2_with fail
  rw[←hw];clear hw
  go_region
  go_wp2_with fail
  go_ret
  exact⟨rfl,hb.drew⟩
theorem make_room (n:Nat) (hn:n≤1048577):∃arr:Array Value,arr.size=n*11∧∀w,(Instr.makeSlice 316 (.int .i64 0) (.int .i64 (n:Int))).run Tryz.prog w=.ok (.slice (some ⟨w.heap.size,0,none⟩) 0 n) (w.alloc (.cells arr 253)):=by
 have hc:(Tryz.prog.info? 253).map (fun i=>(i.zero.isSome,i.size,i.bytes))=some (true,11,104):=by kernel_rfl
 cases hi:Tryz.prog.info? 253 with
 | none=>rw[hi]at hc;cases hc
 | some i =>
  rw[hi]at hc
  simp only[Option.map_some,Option.some.injEq,Prod.mk.injEq]at hc
  obtain⟨h1,h2,h3⟩:=hc
  obtain⟨z,hz⟩:=Option.isSome_iff_exists.1 h1
  refine⟨madeCells z.cells (n*i.size),?_,fun w=>?_⟩
  ·rw[size_madeCells,h2]
  ·have hr:=run_make (P:=Tryz.prog) w 316 253 i z Tryz.underlying316 hi hz .i64 .i64 0 (n:Int) (by omega) (by omega) (by rw[h3];omega) (by omega)
   simpa using hr
theorem make_map (n:Int) (w:World):(Instr.makeMap 317 (some (.int .i64 n))).run Tryz.prog w=.ok (.map (some w.heap.size)) (w.alloc (.map #[] 0)):=by
 unfold Instr.makeMap
 simp[run_underlying Tryz.underlying317,go_sem]
theorem newrows_any (n:Nat) (hn:n≤1048577) (w:World) :
  Calls Tryz.prog 278 #[.int .i64 (n:Int)] w fun e w'=>∃lb mb arr,e=.returned (.agg #[.slice (some ⟨lb,0,none⟩) 0 n,.map (some mb)])∧w.heap.size≤lb∧w.heap.size≤mb∧lb≠mb∧w'.heap[lb]?=some (.cells arr 253)∧arr.size=n*11∧w'.heap[mb]?=some (.map #[] 0)∧Below w.heap.size w w':=by
 obtain⟨arr,hsz,hmk⟩:=make_room n hn
 have hmm:=make_map (n:Int)
 go_enter Tryz.func278,Tryz.ntmps278
 go_wp2_with fail
 go_region
 ·clear hmk hmm
  go_wp2_with fail
  obtain⟨h0,h1,h2⟩:=heap3 w (.cells #[.slice (some ⟨w.heap.size+1,0,none⟩) 0 n,.map (some (w.heap.size+1+1))] 319) (.cells arr 253) (.map #[] 0)
  exact bodyPost_ret (v:=.agg #[.slice (some ⟨w.heap.size+1,0,none⟩) 0 n,.map (some (w.heap.size+1+1))]) (by simp[results,Tryz.results278,go_sem]) rfl ⟨w.heap.size+1,w.heap.size+1+1,arr,rfl,by omega,by omega,by omega,h1,hsz,h2,(bw3 _ _ _ _).drew⟩
 ·clear hmk hmm
  go_wp2_with fail
  obtain⟨h0,h1,h2⟩:=heap3 w (.cells #[.slice (some ⟨w.heap.size+1+1,0,none⟩) 0 n,.map (some (w.heap.size+1))] 319) (.map #[] 0) (.cells arr 253)
  exact bodyPost_ret (v:=.agg #[.slice (some ⟨w.heap.size+1+1,0,none⟩) 0 n,.map (some (w.heap.size+1))]) (by simp[results,Tryz.results278,go_sem]) rfl ⟨w.heap.size+1+1,w.heap.size+1,arr,rfl,by omega,by omega,by omega,h2,hsz,h1,(bw3 _ _ _ _).drew⟩
theorem newbook_any (n:Nat) (hn:n≤1048577) (turns:Int) (w:World) :
  Calls Tryz.prog 231 #[.int .i64 (n:Int),.int .i64 turns] w fun e w'=>∃bk lb mb arr,e=.returned (.pointer (some ⟨bk,0,none⟩))∧w.heap.size≤bk∧w.heap.size≤lb∧w.heap.size≤mb∧lb≠mb∧bk≠lb∧bk≠mb∧w'.heap[bk]?=some (.cells #[.slice (some ⟨lb,0,none⟩) 0 n,.map (some mb),.int .i64 turns] 321)∧w'.heap[lb]?=some (.cells arr 253)∧arr.size=n*11∧w'.heap[mb]?=some (.map #[] 0)∧Below w.heap.size w w':=by
 go_enter Tryz.func231,Tryz.ntmps231
 go_wp2_with fail
 refine (newrows_any n hn _).mono ?_
 rintro e w1 ⟨lb,mb,arr,rfl,h1,h2,h3,h4,h5,h6,hx⟩
 have l1:=(Array.getElem?_eq_some_iff.1 h4).1
 have l2:=(Array.getElem?_eq_some_iff.1 h6).1
 go_wp2_with fail
 go_ret
 have hb:=hx.alloc hx.size (.cells #[.slice (some ⟨lb,0,none⟩) 0 n,.map (some mb),.int .i64 turns] 321)
 refine⟨w1.heap.size,lb,mb,arr,rfl,hx.size,h1,h2,h3,by omega,by omega,?_,?_,h5,?_,hb⟩
 ·show (w1.heap.push _)[w1.heap.size]?=_
  simp
 ·show (w1.heap.push _)[lb]?=_
  rw[Array.getElem?_push,if_neg (by omega)];exact h4
 ·show (w1.heap.push _)[mb]?=_
  rw[Array.getElem?_push,if_neg (by omega)];exact h6
theorem Ents.snoc {es:List MapEntry} {ps:List PD} (h:Ents es ps 0) (p:PD) (e:MapEntry) (h1:e.key=p.key.v) (h2:e.val=.int .i64 (ps.length:Int)):Ents (es++[e]) (ps++[p]) 0:=by
 refine⟨by simp[h.1],fun j p' e' hp he=>?_⟩
 by_cases hj:j<ps.length
 ·rw[List.getElem?_append_left hj]at hp
  rw[List.getElem?_append_left (by rw[h.1];exact hj)]at he
  exact h.2 j p' e' hp he
 ·have hj':j=ps.length:=by
   have:=(List.getElem?_eq_some_iff.1 hp).1
   simp at this;omega
  subst hj'
  rw[List.getElem?_append_right (Nat.le_refl _)]at hp
  rw[List.getElem?_append_right (by rw[h.1];exact Nat.le_refl _)]at he
  simp[h.1]at hp he
  subst hp he
  exact⟨h1,by rw[h2];simp⟩
theorem run_upd_new (p:PD) (w:World) (mb:Nat) (ps:List PD) (h:MapAt w mb ps) (h0:eidx p.key ps 0<0) :
  ∃w',(Instr.mapUpdate 317 (.map (some mb)) p.key.v (.int .i64 (ps.length:Int))).run Tryz.prog w=.ok () w'∧MapAt w' mb (ps++[p])∧ButL [mb] w w':=by
 obtain⟨es,clock,hb,he⟩:=h
 refine⟨{ w with heap:=w.heap.setIfInBounds mb (.map (es.push { key:=p.key.v,val:=.int .i64 (ps.length:Int),born:=clock }) (clock+1)) },?_,?_,?_⟩
 ·unfold Instr.mapUpdate
  simp only[Sem.run_bind,run_underlying Tryz.underlying317,Result.andThen_ok,MapKept.run_getObj_map hb,run_check p.key false w 9998,run_find p.key w ps es.toList he,if_pos h0,MapKept.run_setObj_map _ hb]
 ·have hl:=(Array.getElem?_eq_some_iff.1 hb).1
  refine⟨es.push { key:=p.key.v,val:=.int .i64 (ps.length:Int),born:=clock },clock+1,?_,?_⟩
  ·simp[hl]
  ·rw[Array.toList_push];exact he.snoc p _ rfl rfl
 ·refine⟨rfl,rfl,rfl,by simp,fun k hk hn=>?_⟩
  simp at hn
  show (w.heap.setIfInBounds mb _)[k]?=_
  rw[Array.getElem?_setIfInBounds,if_neg (fun e=>hn e.symm)]
end Go.Proofs.YtliahjnnbbgooaaGreatDoor.J
namespace Go.Proofs.YtliahjnnbbgooaaGreatDoor.J
open Go.RowKit M T U
attribute [local go_sem] run_store_float
structure Bk (w:World) (B bk mb:Nat) (sv:Value) (ds:List PD) (turns:Int):Prop where
 head:w.heap[bk]?=some (.cells #[sv,.map (some mb),.int .i64 turns] 321)
 row:ORow w B 253 11 PD.cells sv ds
 map:MapAt w mb ds
 ge:B≤bk∧B≤mb
theorem pd_len (p:PD):p.cells.length=11:=rfl
theorem Bk.later {w w':World} {B bk mb:Nat} {sv:Value} {ds:List PD} {turns:Int} (h:Bk w B bk mb sv ds turns) (hb:Below w.heap.size w w'):Bk w' B bk mb sv ds turns :=
 ⟨blk_later hb h.head,ORow.later h.row hb,h.map.later hb,h.ge⟩
theorem map_ne {w:World} {g mb:Nat} {a:Array Value} {t:TypeId} {ps:List PD} (h:w.heap[g]?=some (.cells a t)) (hm:MapAt w mb ps):g≠mb:=by
 rintro rfl
 obtain⟨es,clock,hb,_⟩:=hm
 rw[h]at hb
 cases hb
theorem MapAt.butl {S:List Nat} {w wx:World} {mb:Nat} {ps:List PD} (hb:ButL S w wx) (hn:mb∉S) (h:MapAt w mb ps):MapAt wx mb ps:=by
 obtain⟨es,clock,h1,h2⟩:=h
 exact⟨es,clock,hb.blk h1 hn,h2⟩
theorem MapAt.lt {w:World} {mb:Nat} {ps:List PD} (h:MapAt w mb ps):mb<w.heap.size:=by
 obtain⟨es,clock,h1,h2⟩:=h
 exact blk_lt h1
theorem MapAt.own {α:Type} {w:World} {mb:Nat} {ps:List PD} (h:MapAt w mb ps) {B:Nat} {et:TypeId} {k:Nat} {cells:α→List Value} {sv:Value} {xs:List α} (ho:ORow w B et k cells sv xs):sv.ownBlock≠some mb:=by
 intro e
 obtain⟨cur,hc⟩:=ORow.ty ho e
 exact map_ne hc h rfl
theorem pair_row {w:World} {B:Nat} {sv:Value} {ds:List PD} (p:PD) (ho:ORow w B 253 11 PD.cells sv ds) (nb:Nat) (hn:w.heap[nb]?=some (.cells #[.int .i64 p.key.k,.int .i64 p.key.n,.float .f64 p.key.f,.string p.key.s,.int .i64 p.key.r,.int .i64 p.val.k,.int .i64 p.val.n,.float .f64 p.val.f,.string p.val.s,.int .i64 p.val.r,.int .i64 p.turn] 253)) (hl:ds.length≤1000) (hB:B≤w.heap.size) :
  ∃g' cap' w2,(Builtin.append_ #[316,316] 316 #[sv,.slice (some ⟨nb,0,none⟩) 1 1]).run Tryz.prog w=.ok (.slice (some ⟨g',0,none⟩) (ds.length+1) cap') w2 ∧
   Hid (ORow w2 B 253 11 PD.cells (.slice (some ⟨g',0,none⟩) (ds.length+1) cap') (ds++[p]))∧Hid (w.grownBy w2 sv.ownBlock):=by
 obtain⟨g',cap',w2,hr,ho2,hg⟩:=ORow.app 316 104 Tryz.underlying316 (by kernel_rfl) (by omega) (by omega) ho p nb 316 hn (pd_len p) (by intro u hu;simp[PD.cells,VD.cells]at hu;rcases hu with rfl | rfl | rfl | rfl | rfl | rfl | rfl | rfl | rfl | rfl | rfl<;>rfl) (by omega) hB
 exact⟨g',cap',w2,hr,ho2,hg⟩
def PBox (w:World) (g:Nat) (p:PD):Prop :=
 w.cell? ⟨g,0,none⟩=some (.int .i64 p.key.k)∧w.cell? ⟨g,1,none⟩=some (.int .i64 p.key.n)∧w.cell? ⟨g,2,none⟩=some (.float .f64 p.key.f)∧w.cell? ⟨g,3,none⟩=some (.string p.key.s)∧w.cell? ⟨g,4,none⟩=some (.int .i64 p.key.r)∧w.cell? ⟨g,5,none⟩=some (.int .i64 p.val.k)∧w.cell? ⟨g,6,none⟩=some (.int .i64 p.val.n)∧w.cell? ⟨g,7,none⟩=some (.float .f64 p.val.f)∧w.cell? ⟨g,8,none⟩=some (.string p.val.s)∧w.cell? ⟨g,9,none⟩=some (.int .i64 p.val.r)∧w.cell? ⟨g,10,none⟩=some (.int .i64 p.turn)
theorem boxp (w:World) (p:PD) (t:TypeId):∃w1,w1=w.alloc (.cells #[.int .i64 p.key.k,.int .i64 p.key.n,.float .f64 p.key.f,.string p.key.s,.int .i64 p.key.r,.int .i64 p.val.k,.int .i64 p.val.n,.float .f64 p.val.f,.string p.val.s,.int .i64 p.val.r,.int .i64 p.turn] t)∧Below w.heap.size w w1∧PBox w1 w.heap.size p:=by
 refine⟨_,rfl,bw1 _ _,?_⟩
 unfold PBox
 refine⟨?_,?_,?_,?_,?_,?_,?_,?_,?_,?_,?_⟩<;>simp[go_sem]
theorem add_any (p:PD) (B bk mb:Nat) (sv:Value) (ds:List PD) (turns:Int) (w:World) (hB:Bk w B bk mb sv ds turns) (h0:eidx p.key ds 0<0) (hl:ds.length≤100) (hBw:B≤w.heap.size) :
  Calls Tryz.prog 259 #[.pointer (some ⟨bk,0,none⟩),PVal p] w fun e w'=>e=.returned (.tuple #[])∧∃sv',Bk w' B bk mb sv' (ds++[p]) turns∧Below B w w':=by
 obtain⟨a,cap,hsv⟩:=ORow.val hB.row
 subst hsv
 have l1:=blk_lt hB.head
 have l3:=hB.map.lt
 obtain⟨w1,hw,hb,hp⟩:=boxp w p 253
 replace hB:=hB.later hb
 have c0:w1.cell? ⟨bk,0,none⟩=some (.slice a ds.length cap):=by rw[blk_cell hB.head];rfl
 have c1:w1.cell? ⟨bk,1,none⟩=some (.map (some mb)):=by rw[blk_cell hB.head];rfl
 have n2:bk≠mb:=map_ne hB.head hB.map
 have HB:Hid (Bk w1 B bk mb (.slice a ds.length cap) ds turns):=hB
 have HP:Hid (PBox w1 w.heap.size p):=hp
 have H0:Hid (eidx p.key ds 0<0):=h0
 obtain⟨d0,d1,d2,d3,d4,d5,d6,d7,d8,d9,d10⟩:=hp
 have mk:=m_key
 clear hB h0
 go_enter Tryz.func259,Tryz.ntmps259
 go_upto_region 1 with fail
 rw[←hw];clear hw
 go_cut [] from 4 to 15 (fun wx=>Hid (MapAt wx mb (ds++[p]))∧Hid (ButL [mb] w1 wx))
 case first =>
  go_region_with (go_at_call 382;refine (ikey_any p _).mono ?_;rintro e w2 ⟨rfl,hx⟩;replace hx:=und1 hx;replace c0:=cell_later hx c0;replace c1:=cell_later hx c1;obtain⟨w3,hu,hM,hT⟩:=run_upd_new p w2 mb ds (HB.out.map.later hx) H0.out;have HM:Hid (MapAt w3 mb (ds++[p])):=hM;have HT:Hid (ButL [mb] w1 w3):=(ButL.of_below hx).trans hT;clear hM hT hx)
  all_goals (go_wp2_with fail;go_meet;exact⟨HM,HT⟩)
 case rest =>
  obtain⟨HM,HT⟩:=hcut
  clear mk d0 d1 d2 d3 d4 d5 d6 d7 d8 d9 d10 c1
  have hc:=HT.out.cell (b:=bk) (by simp[n2]) c0
  obtain⟨d0,d1,d2,d3,d4,d5,d6,d7,d8,d9,d10⟩:=HP.out
  have hne:w.heap.size∉[mb]:=by simp;omega
  replace d0:=HT.out.cell hne d0;replace d1:=HT.out.cell hne d1;replace d2:=HT.out.cell hne d2;replace d3:=HT.out.cell hne d3;replace d4:=HT.out.cell hne d4;replace d5:=HT.out.cell hne d5;replace d6:=HT.out.cell hne d6;replace d7:=HT.out.cell hne d7;replace d8:=HT.out.cell hne d8;replace d9:=HT.out.cell hne d9;replace d10:=HT.out.cell hne d10
  clear hne c0
  have hw1:=hb.size
  have hw3:=HT.out.size
  have hmo:=MapAt.own HB.out.map HB.out.row
  have hbo:(Value.slice a ds.length cap).ownBlock≠some bk:=own_ne HB.out.row HB.out.head (by decide)
  have hr3:ORow wc B 253 11 PD.cells (.slice a ds.length cap) ds:=ORow.butn HB.out.row HT.out (fun g e hg=>hmo (by simp at hg;rw[e,hg]))
  have hk3:wc.heap[bk]?=some (.cells #[.slice a ds.length cap,.map (some mb),.int .i64 turns] 321):=HT.out.blk HB.out.head (by simp[n2])
  have hba:=bw1 wc (.cells #[.int .i64 p.key.k,.int .i64 p.key.n,.float .f64 p.key.f,.string p.key.s,.int .i64 p.key.r,.int .i64 p.val.k,.int .i64 p.val.n,.float .f64 p.val.f,.string p.val.s,.int .i64 p.val.r,.int .i64 p.turn] 253)
  obtain⟨g4,cap4,w4,happ,HR,HG⟩:=pair_row p (w:=(wc.alloc (.cells #[.int .i64 p.key.k,.int .i64 p.key.n,.float .f64 p.key.f,.string p.key.s,.int .i64 p.key.r,.int .i64 p.val.k,.int .i64 p.val.n,.float .f64 p.val.f,.string p.val.s,.int .i64 p.val.r,.int .i64 p.turn] 253)).drew) (T.ORow.drew (ORow.later hr3 hba)) wc.heap.size (blk_new _ _) (by omega) (by show B≤(wc.heap.push _).size;simp;omega)
  have hown:∀g,(Value.slice a ds.length cap).ownBlock=some g→g∈(Value.slice a ds.length cap).ownBlock.toList∨wc.heap.size≤g:=fun g e=>.inl (by simp[e])
  have hb4:ButL (Value.slice a ds.length cap).ownBlock.toList wc w4:=ButL.grown (((ButL.refl _ wc).alloc _).drew) HG.out hown
  have hge:∀g∈(Value.slice a ds.length cap).ownBlock.toList,B≤g:=fun g e=>(ORow.own_lt HB.out.row (by simpa using e)).1
  have hk4:w4.heap[bk]?=some (.cells #[.slice a ds.length cap,.map (some mb),.int .i64 turns] 321):=hb4.blk hk3 (fun e=>hbo (by simpa using e))
  have HM4:Hid (MapAt w4 mb (ds++[p])):=MapAt.butl hb4 (fun e=>hmo (by simpa using e)) HM.out
  have HB4:Hid (Below B w w4):=(hb.mono hBw).trans (ButL.below (ButL.below (Below.refl _ _) HT.out (by simpa using HB.out.ge.2) (by omega)) hb4 hge (by omega))
  have HGE:Hid (B≤bk∧B≤mb):=HB.out.ge
  have hbo4:(Value.slice (some ⟨g4,0,none⟩) (ds.length+1) cap4).ownBlock≠some bk:=own_ne HR.out hk4 (by decide)
  have f0:w4.cell? ⟨bk,0,none⟩=some (.slice a ds.length cap):=by rw[blk_cell hk4];rfl
  have z0:=blk_frozen hk4
  have c0a:(wc.alloc (.cells #[.int .i64 p.key.k,.int .i64 p.key.n,.float .f64 p.key.f,.string p.key.s,.int .i64 p.key.r,.int .i64 p.val.k,.int .i64 p.val.n,.float .f64 p.val.f,.string p.val.s,.int .i64 p.val.r,.int .i64 p.turn] 253)).cell? ⟨bk,0,none⟩=some (.slice a ds.length cap):=cell_later (bw1 _ _) hc
  have HK:Hid (w4.heap[bk]?=some (.cells #[.slice a ds.length cap,.map (some mb),.int .i64 turns] 321)):=hk4
  have HS:Hid ((Builtin.append_ #[316,316] 316 #[.slice a ds.length cap,.slice (some ⟨wc.heap.size,0,none⟩) 1 1]).run Tryz.prog (wc.alloc (.cells #[.int .i64 p.key.k,.int .i64 p.key.n,.float .f64 p.key.f,.string p.key.s,.int .i64 p.key.r,.int .i64 p.val.k,.int .i64 p.val.n,.float .f64 p.val.f,.string p.val.s,.int .i64 p.val.r,.int .i64 p.turn] 253)).drew=.ok (.slice (some ⟨g4,0,none⟩) (ds.length+1) cap4) w4):=happ
  clear hb4 hk4 hk3 happ hown hge hr3 hba hbo hmo HB HT HM HG HP H0 hb
  go_wp2_with fail
  go_region_law (refine step_append_run rfl _ _ _ rfl _ _ _ _ rfl rfl HS.out ?_)
  all_goals
   go_end0
   refine⟨rfl,.slice (some ⟨g4,0,none⟩) (ds.length+1) cap4,⟨?_,ORow.set_own HR.out hbo4 _ _,MapAt.butl ((ButL.refl [bk] _).set (by simp) _ _) (by simpa using n2.symm) HM4.out,HGE.out⟩,HB4.out.trans (ButL.below (Below.refl _ _) ((ButL.refl [bk] _).set (by simp) _ _) (by simpa using HGE.out.1) (Nat.le_trans hBw HB4.out.size))⟩
   rw[blk_set HK.out];simp
end Go.Proofs.YtliahjnnbbgooaaGreatDoor.J
namespace Go.Proofs.YtliahjnnbbgooaaGreatDoor.J
open Go.RowKit M T U
attribute [local go_sem] run_store_float
theorem heap2 (w:World) (o p:Obj):((w.alloc o).alloc p).heap[w.heap.size]?=some o∧((w.alloc o).alloc p).heap[w.heap.size+1]?=some p:=by
 refine⟨?_,?_⟩
 ·show ((w.heap.push _).push _)[w.heap.size]?=_
  simp only[Array.getElem?_push,Array.size_push]
  rw[if_neg (by omega),if_pos trivial]
 ·show ((w.heap.push _).push _)[w.heap.size+1]?=_
  simp only[Array.getElem?_push,Array.size_push]
  rw[if_pos trivial]
theorem Bk.drew {w:World} {B bk mb:Nat} {sv:Value} {ds:List PD} {turns:Int} (h:Bk w B bk mb sv ds turns):Bk w.drew B bk mb sv ds turns:=⟨h.head,h.row,h.map,h.ge⟩
theorem Bk.turn {w:World} {B bk mb:Nat} {sv:Value} {ds:List PD} {turns:Int} (h:Bk w B bk mb sv ds turns) (t:Int):Bk (w.setCell ⟨bk,2,none⟩ (.int .i64 t)) B bk mb sv ds t :=
 ⟨by rw[blk_set h.head];simp,ORow.set_own h.row (own_ne h.row h.head (by decide)) _ _,MapAt.butl ((ButL.refl [bk] _).set (by simp) _ _) (by simpa using (map_ne h.head h.map).symm) h.map,h.ge⟩
theorem below_drew {B:Nat} {w w':World} (h:Below B w.drew w'):Below B w w':=⟨h.os,h.tape,h.output,h.size,h.block⟩
theorem put_new (key v:VD) (B bk mb:Nat) (sv:Value) (ds:List PD) (turns:Int) (w:World) (hB:Bk w B bk mb sv ds turns) (h0':eidx key ds 0<0) (hl:ds.length≤100) (hBw:B≤w.heap.size) (hk:v.k≠0) (ht1:0≤turns) (ht2:turns<1000) :
  Calls Tryz.prog 207 #[.pointer (some ⟨bk,0,none⟩),key.v,v.v] w fun e w'=>e=.returned (.tuple #[])∧∃sv',Bk w' B bk mb sv' (ds++[⟨key,v,turns+1⟩]) (turns+1)∧Below B w w':=by
 obtain⟨a,cap,hsv⟩:=ORow.val hB.row
 subst hsv
 have k0:decide (0≤eidx key ds 0)=false:=by simpa using h0'
 have H0:Hid (eidx key ds 0<0):=h0'
 have hk2:(v.k != 0)=true:=by simpa using hk
 have hn2:decide ((ds.length:Int)<500)=true:=by simp;omega
 have ht3:decide (turns<1000000000000)=true:=by simp;omega
 have HB:Hid (Bk w B bk mb (.slice a ds.length cap) ds turns):=hB
 have hl1:=blk_lt hB.head
 clear hB
 go_enter Tryz.func207,Tryz.ntmps207
 go_wp2_with fail
 obtain⟨b0,b1⟩:=heap2 w (VO key.k key.n key.f key.s key.r) (VO v.k v.n v.f v.s v.r)
 obtain⟨w1,hw⟩:∃w1,w1=(w.alloc (VO key.k key.n key.f key.s key.r)).alloc (VO v.k v.n v.f v.s v.r):=⟨_,rfl⟩
 rw[←hw]at b0 b1
 have hb:Below w.heap.size w w1:=by rw[hw];exact bw2 _ _ _
 rw[←hw];clear hw
 have d0:w1.cell? ⟨w.heap.size,0,none⟩=some (.int .i64 key.k):=by rw[blk_cell b0];rfl
 have d1:w1.cell? ⟨w.heap.size,1,none⟩=some (.int .i64 key.n):=by rw[blk_cell b0];rfl
 have d2:w1.cell? ⟨w.heap.size,2,none⟩=some (.float .f64 key.f):=by rw[blk_cell b0];rfl
 have d3:w1.cell? ⟨w.heap.size,3,none⟩=some (.string key.s):=by rw[blk_cell b0];rfl
 have d4:w1.cell? ⟨w.heap.size,4,none⟩=some (.int .i64 key.r):=by rw[blk_cell b0];rfl
 have e0:=lat_cell d0;have e1:=lat_cell d1;have e2:=lat_cell d2;have e3:=lat_cell d3;have e4:=lat_cell d4
 have HL:∀x:Lat w1,Hid (MapAt x.wd mb ds):=fun x=>HB.out.map.later (hb.trans (x.below.mono hb.size))
 have HC1:∀x:Lat w1,Hid (x.wd.cell? ⟨bk,1,none⟩=some (.map (some mb))):=fun x=>lat_cell (cell_later hb (by rw[blk_cell HB.out.head];rfl)) x
 haveI:=lat_some w1
 refine wp_region_lat (by kernel_rfl) (by kernel_rfl) ?_
 repeat (go_big_quiet_step ((go_at_call 209;refine lat_calls (find_any key bk mb ds _ (HL _).out (HC1 _).out))))
 refine wpQuiet_nil ?_
 rintro _ ⟨nq,rfl⟩
 obtain⟨w2,hw2⟩:∃w2,w2=nq.wd:=⟨_,rfl⟩
 have hb12:Below w1.heap.size w1 w2:=by rw[hw2];exact nq.below
 rw[←hw2]
 clear hw2 e0 e1 e2 e3 e4 HL HC1
 have hlt0:=blk_lt b0
 have hlt1:=blk_lt b1
 have b0':=(hb12.block _ hlt0).trans b0
 have b1':=(hb12.block _ hlt1).trans b1
 have hb2:=hb.trans (hb12.mono hb.size)
 have HB2:Hid (Bk w2 B bk mb (.slice a ds.length cap) ds turns):=HB.out.later hb2
 have hsz2:=hb12.size
 clear d0 d1 d2 d3 d4 b0 b1 hb12 nq
 have d0:=blk_cell b0' 0;have d1:=blk_cell b0' 1;have d2:=blk_cell b0' 2;have d3:=blk_cell b0' 3;have d4:=blk_cell b0' 4
 have u0:=blk_cell b1' 0;have u1:=blk_cell b1' 1;have u2:=blk_cell b1' 2;have u3:=blk_cell b1' 3;have u4:=blk_cell b1' 4
 have h0:=blk_cell HB2.out.head 0;have h1:=blk_cell HB2.out.head 1;have h2:=blk_cell HB2.out.head 2
 have zh:=blk_frozen HB2.out.head
 simp only[List.getElem?_toArray,List.getElem?_cons_zero,List.getElem?_cons_succ]at d0 d1 d2 d3 d4 u0 u1 u2 u3 u4 h0 h1 h2
 obtain⟨w3,hw3⟩:∃w3,w3=w2.setCell ⟨bk,2,none⟩ (.int .i64 (turns+1)):=⟨_,rfl⟩
 have hT23:ButL [bk] w2 w3:=by rw[hw3];exact (ButL.refl [bk] _).set (by simp) _ _
 have HB3:Hid (Bk w3 B bk mb (.slice a ds.length cap) ds (turns+1)):=by rw[hw3];exact HB2.out.turn _
 have HT3:Hid (Below B w w3):=ButL.below (hb2.mono hBw) hT23 (by simpa using HB.out.ge.1) (Nat.le_trans hBw hb2.size)
 have g0:=blk_cell HB3.out.head 2
 simp only[List.getElem?_toArray,List.getElem?_cons_zero,List.getElem?_cons_succ]at g0
 have b0'':=hT23.blk b0' (by simp;omega)
 have b1'':=hT23.blk b1' (by simp;omega)
 have a0:=blk_cell b0'' 0;have a1:=blk_cell b0'' 1;have a2:=blk_cell b0'' 2;have a3:=blk_cell b0'' 3;have a4:=blk_cell b0'' 4
 have e0:=blk_cell b1'' 0;have e1:=blk_cell b1'' 1;have e2:=blk_cell b1'' 2;have e3:=blk_cell b1'' 3;have e4:=blk_cell b1'' 4
 simp only[List.getElem?_toArray,List.getElem?_cons_zero,List.getElem?_cons_succ]at a0 a1 a2 a3 a4 e0 e1 e2 e3 e4
 go_wp2_with fail
 rw[←hw3]
 clear hw3 b0' b1' b0'' b1'' d0 d1 d2 d3 d4 u0 u1 u2 u3 u4 h0 h1 h2 zh hT23
 go_region_with (go_at_call 259;refine (add_any ⟨key,v,turns+1⟩ B bk mb (.slice a ds.length cap) ds (turns+1) _ (HB3.out.drew) H0.out hl (Nat.le_trans hBw HT3.out.size)).mono ?_;rintro e w4 ⟨rfl,sv',hK4,hT⟩;have HK4:Hid (Bk w4 B bk mb sv' (ds++[⟨key,v,turns+1⟩]) (turns+1)):=hK4;have HT4:Hid (Below B w w4):=HT3.out.trans (below_drew hT);clear hK4 hT)
 all_goals
  go_wp2_with fail
  go_end0
  exact⟨rfl,sv',HK4.out,HT4.out⟩
end Go.Proofs.YtliahjnnbbgooaaGreatDoor.J
