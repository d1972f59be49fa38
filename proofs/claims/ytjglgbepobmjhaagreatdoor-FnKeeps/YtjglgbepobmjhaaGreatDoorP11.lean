import Derived.Test.YtjglgbepobmjhaaGreatDoorP10
import Derived.Deep.CutRange
import Derived.Deep.WholeRow
import Derived.Test.YtjglgbepobmjhaaGreatDoorP08
set_option linter.unusedVariables false
set_option linter.unusedSimpArgs false
set_option maxRecDepth 20000
set_option maxHeartbeats 8000000
namespace Go.Proofs.YtjglgbepobmjhaaGreatDoor.M
open Go.RowKit
attribute [local go_sem] run_store_float
def instA : Array Value:=instT.toArray
def buiA : Array Value:=buiT.toArray
theorem wpList_store_new {P : Program} {w : World} {ops : Array Oper} {rest : List Oper} {o : Oper} {a : Act} {Q : Exit→Act→World→Prop} (hgd : o.guard = none) (t : TypeId) (x y : Operand) (ho : o.op = .store t x y) (c c' : Array Value)
  (hx : a.eval x = .pointer (some ⟨w.heap.size,0,none⟩)) (hy : a.eval y = .agg c') (hi : (P.info? t).map (·.size) = some c'.size) (hs : c.size = c'.size) (h1 : c'.all (·.oneCell') = true)
  (h : wpList P ops Q rest (a.put o.dst undef) (w.alloc (.cells c' t))) : wpList P ops Q (o :: rest) a (w.alloc (.cells c t)) :=
 wpList_plain hgd fun _ hK=>by
  unfold Oper.wp
  simp only [execOp,ho,hx,hy,Sem.run_bind,run_storeAt_new w t c c' hi hs h1,Result.andThen_ok,Sem.run_pure,Oper.upon_skip]
  exact hK _ _ h
theorem results_new {P : Program} {fn : Func} {w : World} {tmps : Array Value} (k : Nat) (t : TypeId) (c : Array Value) (n : Nat) (e : TypeId) (hres : fn.results = #[.cell k t]) (hk : tmps.getD k undef = .pointer (some ⟨w.heap.size,0,none⟩)) (hu : P.underlying t = some (.array n e)) (hi : (P.info? t).map (·.size) = some c.size) :
  (results fn tmps).run P (w.alloc (.cells c t)) = .ok (.agg c) (w.alloc (.cells c t)):=by
 have hl:=run_loadVar_new (P:=P) w t c n e hu hi
 have hk' : tmps[k]?.getD undef = .pointer (some ⟨w.heap.size,0,none⟩):=by rw [← hk]; simp [Array.getD_eq_getD_getElem?]
 simp [results,hres,hk',asAddr,hl,Result.andThen]
theorem built_any (w : World) : Calls Tryz.prog 46 #[] w fun e w'=>e = .returned (.agg buiA)∧Below w.heap.size w w':=by
 go_enter Tryz.func46,Tryz.ntmps46
 go_wp2_with (refine wpList_store_new rfl 93 _ _ rfl _ _ rfl rfl (by kernel_rfl) (by kernel_rfl) (by kernel_rfl) ?_)
 exact bodyPost_ret (v:=.agg buiA) (results_new 0 93 _ 15 92 Tryz.results46 rfl Tryz.underlying93 (by kernel_rfl)) rfl ⟨rfl,bw1 _ _⟩
theorem instr_any (w : World) : Calls Tryz.prog 45 #[] w fun e w'=>e = .returned (.agg instA)∧Below w.heap.size w w':=by
 go_enter Tryz.func45,Tryz.ntmps45
 go_wp2_with (refine wpList_store_new rfl 89 _ _ rfl _ _ rfl rfl (by kernel_rfl) (by kernel_rfl) (by kernel_rfl) ?_)
 exact bodyPost_ret (v:=.agg instA) (results_new 0 89 _ 43 88 Tryz.results45 rfl Tryz.underlying89 (by kernel_rfl)) rfl ⟨rfl,bw1 _ _⟩
attribute [irreducible] instA buiA
end Go.Proofs.YtjglgbepobmjhaaGreatDoor.M
namespace Go.Proofs.YtjglgbepobmjhaaGreatDoor.M
open Go.RowKit
attribute [local go_sem] run_store_float
theorem mk_chan (W : World) : (Instr.makeChan 141 (.int .i64 0)).run Tryz.prog W = .ok (.chan (some W.heap.size)) (W.alloc (.chan 0 #[] false 0 0 false)):=by kernel_rfl
def taskA (calls : Value) (gch : Nat) (st : Int) : Array Value:=#[.int .i64 0,.int .i64 0,.int .i64 st,.int .i64 0,.int .i64 0,.float .f64 0,.string ⟨#[]⟩,.int .i64 0,calls,.chan (some gch),.pointer none,.bool false,.pointer none,.slice none 0 0]
set_option maxHeartbeats 4000000 in
theorem newTask_any (g : Nat) (m : MachD) (w : World) (h : MachAt w g m) (ht : m.tasks = .slice none 0 0) :
  Calls Tryz.prog 47 #[.pointer (some ⟨g,0,none⟩),.agg #[.int .i64 0,.int .i64 0,.float .f64 0,.string ⟨#[]⟩,.int .i64 0]] w fun e w'=>∃ gt gk gch cap,e = .returned (.pointer (some ⟨gt,0,none⟩))∧MachAt w' g { m with tasks:=.slice (some ⟨gk,0,none⟩) 1 cap }∧w'.heap[gt]? = some (.cells (taskA (.slice none 0 0) gch 0) 145)∧w'.heap[gch]? = some (.chan 0 #[] false 0 0 false)∧w.heap.size ≤ gt∧w.heap.size ≤ gch∧ORow w' w.heap.size 97 1 pC (.slice (some ⟨gk,0,none⟩) 1 cap) [gt]∧ButL [g] w w':=by
 have hmk:=mk_chan
 have hgl:=blk_lt h
 obtain ⟨W,hW⟩ : ∃ W,w.alloc (.cells #[.int .i64 0,.int .i64 0,.float .f64 0,.string ⟨#[]⟩,.int .i64 0] 70) = W:=⟨_,rfl⟩
 have hb:=bw1 w (.cells #[.int .i64 0,.int .i64 0,.float .f64 0,.string ⟨#[]⟩,.int .i64 0] 70)
 have bn:=blk_new w (.cells #[.int .i64 0,.int .i64 0,.float .f64 0,.string ⟨#[]⟩,.int .i64 0] 70)
 have hsz : W.heap.size = w.heap.size + 1:=by rw [← hW]; simp
 rw [hW] at hb bn
 have hm:=h.later hb
 have c74 : W.cell? ⟨g,74,none⟩ = some (.slice none 0 0):=by rw [hm.cell,← ht]; rfl
 have d0 : W.cell? ⟨w.heap.size,0,none⟩ = some (.int .i64 0):=by rw [blk_cell bn]; rfl
 have d1 : W.cell? ⟨w.heap.size,1,none⟩ = some (.int .i64 0):=by rw [blk_cell bn]; rfl
 have d2 : W.cell? ⟨w.heap.size,2,none⟩ = some (.float .f64 0):=by rw [blk_cell bn]; rfl
 have d3 : W.cell? ⟨w.heap.size,3,none⟩ = some (.string ⟨#[]⟩):=by rw [blk_cell bn]; rfl
 have d4 : W.cell? ⟨w.heap.size,4,none⟩ = some (.int .i64 0):=by rw [blk_cell bn]; rfl
 have hc1:=bw1 W (.chan 0 #[] false 0 0 false)
 have e0:=cell_later hc1 d0
 have e1:=cell_later hc1 d1
 have e2:=cell_later hc1 d2
 have e3:=cell_later hc1 d3
 have e4:=cell_later hc1 d4
 have e5:=cell_later hc1 c74
 clear hc1
 obtain ⟨W1,hW1⟩ : ∃ W1,((W.alloc (.chan 0 #[] false 0 0 false)).alloc (.cells #[.int .i64 0,.int .i64 0,.int .i64 0,.int .i64 0,.int .i64 0,.float .f64 0,.string ⟨#[]⟩,.int .i64 0,.slice none 0 0,.chan (some (w.heap.size + 1)),.pointer none,.bool false,.pointer none,.slice none 0 0] 145)).drew = W1:=⟨_,rfl⟩
 have hb1 : Below W.heap.size W W1:=by rw [← hW1]; exact (bw2 W (.chan 0 #[] false 0 0 false) (.cells #[.int .i64 0,.int .i64 0,.int .i64 0,.int .i64 0,.int .i64 0,.float .f64 0,.string ⟨#[]⟩,.int .i64 0,.slice none 0 0,.chan (some (w.heap.size + 1)),.pointer none,.bool false,.pointer none,.slice none 0 0] 145)).drew
 have hsz1 : W1.heap.size = w.heap.size + 1 + 1 + 1:=by rw [← hW1]; simp [hsz]
 have hm1 : MachAt W1 g m:=hm.later hb1
 have ht1 : W1.heap[w.heap.size + 1 + 1]? = some (.cells (taskA (.slice none 0 0) (w.heap.size + 1) 0) 145):=by rw [← hW1]; exact blk_newn (by simp [hsz]) _
 have hc1 : W1.heap[w.heap.size + 1]? = some (.chan 0 #[] false 0 0 false):=by rw [← hW1]; exact blk_old (blk_newn (by omega) _) _
 have f74 : W1.cell? ⟨g,74,none⟩ = some (.slice none 0 0):=by rw [hm1.cell,← ht]; rfl
 have hy:=bw1 W1 (.cells #[.pointer (some ⟨w.heap.size + 1 + 1,0,none⟩)] 97)
 obtain ⟨g',cap',w2,hr,ho2,hg2⟩:=(ORow.nil (W1.alloc (.cells #[.pointer (some ⟨w.heap.size + 1 + 1,0,none⟩)] 97)) w.heap.size 97 1 pC).app 96 8 Tryz.underlying96 (by kernel_rfl) (by omega) (by omega) (w.heap.size + 1 + 1) (w.heap.size + 1 + 1 + 1) 96 (show (W1.alloc (.cells #[.pointer (some ⟨w.heap.size + 1 + 1,0,none⟩)] 97)).heap[w.heap.size + 1 + 1 + 1]? = _ from blk_newn (by omega) _) rfl (by intro u hu; simp [pC] at hu; subst hu; rfl) (by simp) (by simp; omega)
 have hb2 : Below W1.heap.size W1 w2:=ButL.nil (ButL.grown (S:=[]) ((ButL.refl [] W1).alloc _) hg2 (fun b e=>by cases e))
 have hm2 : MachAt w2 g m:=hm1.later hb2
 have g74 : w2.cell? ⟨g,74,none⟩ = some (.slice none 0 0):=by rw [hm2.cell,← ht]; rfl
 have z2:=blk_frozen hm2
 have HE : Hid (MachAt (w2.setCell ⟨g,74,none⟩ (.slice (some ⟨g',0,none⟩) 1 cap')) g { m with tasks:=.slice (some ⟨g',0,none⟩) 1 cap' }∧(w2.setCell ⟨g,74,none⟩ (.slice (some ⟨g',0,none⟩) 1 cap')).heap[w.heap.size + 1 + 1]? = some (.cells (taskA (.slice none 0 0) (w.heap.size + 1) 0) 145)∧(w2.setCell ⟨g,74,none⟩ (.slice (some ⟨g',0,none⟩) 1 cap')).heap[w.heap.size + 1]? = some (.chan 0 #[] false 0 0 false)∧w.heap.size ≤ w.heap.size + 1 + 1∧w.heap.size ≤ w.heap.size + 1∧ORow (w2.setCell ⟨g,74,none⟩ (.slice (some ⟨g',0,none⟩) 1 cap')) w.heap.size 97 1 pC (.slice (some ⟨g',0,none⟩) 1 cap') [w.heap.size + 1 + 1]∧ButL [g] w (w2.setCell ⟨g,74,none⟩ (.slice (some ⟨g',0,none⟩) 1 cap'))):=by
  refine ⟨?_,blk_other (blk_later hb2 ht1) (by omega) _ _,blk_other (blk_later hb2 hc1) (by omega) _ _,by omega,by omega,ORow.set_own ho2 (own_ne ho2 hm2 (by decide)) _ _,?_⟩
  ·have:=blk_set hm2 74 (.slice (some ⟨g',0,none⟩) 1 cap')
   rw [MachD.set_tasks] at this
   exact this
  ·exact ((((ButL.of_below hb).thenB hb1).thenB hb2)).set (by simp) _ _
 have HR : Hid _:=hr
 clear h hm hb bn hb1 hm1 ht1 hc1 hy ho2 hg2 hb2 hm2 hr
 go_enter Tryz.func47,Tryz.ntmps47
 go_wp2_with fail
 clear hW
 go_region
 go_wp2_with (at_builtin; refine wpList_append_run rfl _ _ _ rfl _ _ _ _ rfl rfl HR.out ?_)
 go_ret
 exact ⟨_,_,_,_,rfl,HE.out⟩
end Go.Proofs.YtjglgbepobmjhaaGreatDoor.M
namespace Go.Proofs.YtjglgbepobmjhaaGreatDoor
open Go.RowKit
theorem OI.shrink {w : World} {B g n cap : Nat} {ts : List Int} (h : OI w B (.slice (some ⟨g,0,none⟩) n cap) ts) (m : Nat) (hm : m ≤ ts.length) : OI w B (.slice (some ⟨g,0,none⟩) m cap) (ts.take m):=by
 obtain ⟨h1,h2⟩:=h
 have hl : (ts.take m).length = m:=by simp; omega
 refine ⟨by rw [flat_int]; simp,?_⟩
 rcases h2 with ⟨e,_⟩ | ⟨g',c',cur,e,hb,hg,hll,hmx,hs,ht⟩
 ·cases e
 ·cases e
  rw [hl]
  refine .inr ⟨g,_,cur,rfl,hb,hg,by omega,hmx,hs,?_⟩
  rw [flat_int] at ht ⊢
  rw [List.map_take,← ht,List.take_take]
  congr 1
  omega
structure PoI (B gp g n cap : Nat) (o : Obj) (S : List Nat) (w : World) (mem : Nat→Prop) (wr : World) (l : List Nat) (i : Nat) : Prop where
 blk : wr.heap[gp]? = some o
 row : OI wr B (.slice (some ⟨g,0,none⟩) n cap) (nz l)
 len : l.length = n
 dn : HP.Dn l i
 nd : HP.Nd l
 mem : ∀ z,z ∈ l ↔ mem z
 but : ButL S w wr
theorem PoI.drewN {B gp g n cap : Nat} {o : Obj} {S : List Nat} {w : World} {mem : Nat→Prop} {wr : World} {l : List Nat} {i : Nat} (h : PoI B gp g n cap o S w mem wr l i) (q : Nat) : PoI B gp g n cap o S w mem (wr.drewN q) l i :=
 ⟨h.blk,h.row,h.len,h.dn,h.nd,h.mem,h.but.drewN q⟩
theorem PoI.step {B gp g n cap : Nat} {o : Obj} {S : List Nat} {w : World} {mem : Nat→Prop} {wr : World} {l : List Nat} {i j u v : Nat} (h : PoI B gp g n cap o S w mem wr l i) (hj : j = 2 * i + 1 ∨ j = 2 * i + 2) (hu : l[i]? = some u) (hv : l[j]? = some v) (huv : v < u) (hmin : ∀ (k z : Nat),(k = 2 * i + 1 ∨ k = 2 * i + 2)→l[k]? = some z→v ≤ z) (hS : g ∈ S ∨ w.heap.size ≤ g) (hgp : gp ≠ g) :
  PoI B gp g n cap o S w mem ((wr.setCell ⟨g,i,none⟩ (.int .i64 v)).setCell ⟨g,j,none⟩ (.int .i64 u)) (HP.swp l i j u v) j:=by
 have hne : i ≠ j:=by omega
 have hl:=h.len
 have hil:=(List.getElem?_eq_some_iff.1 hu).1
 have hjl:=(List.getElem?_eq_some_iff.1 hv).1
 refine ⟨blk_other (blk_other h.blk hgp.symm i _) hgp.symm j _,?_,by rw [HP.swp_len]; exact hl,h.dn.step hj hu hv huv hmin,HP.swp_nd h.nd hne hu hv,fun z=>by rw [HP.swp_mem hne hu hv]; exact h.mem z,(h.but.seto hS i _).seto hS j _⟩
 have:=OI.set (OI.set h.row i v (by rw [nz_len]; omega)) j u (by rw [List.length_set,nz_len]; omega)
 rw [nz_set,nz_set] at this
 exact this
theorem pop_any (gp off B : Nat) (hv : Value) (l : List Nat) (x : Nat) (w : World) (arr : Array Value) (ty : TypeId) (hb : w.heap[gp]? = some (.cells arr ty)) (hc : arr[off]? = some hv) (hty : ty ≠ 3) (hh : HpV w B hv l) (hx : l[0]? = some x) (hl : l.length ≤ 6000) (hB : B ≤ w.heap.size) :
  Calls Tryz.prog 37 #[.pointer (some ⟨gp,off,none⟩)] w fun e w'=>e = .returned (.int .i64 x)∧∃ hv' l',w'.heap[gp]? = some (.cells (arr.setIfInBounds off hv') ty)∧HpV w' B hv' l'∧(∀ z,z ∈ l' ↔ z ≠ x∧z ∈ l)∧l'.length + 1 = l.length∧ButL (gp :: hv.ownBlock.toList) w w'∧hv'.ownBlock = hv.ownBlock:=by
 obtain ⟨aa,cc,rfl⟩:=hh.row.val
 rw [nz_len] at *
 have hpos:=(List.getElem?_eq_some_iff.1 hx).1
 obtain ⟨g,rfl⟩ : ∃ g,aa = some ⟨g,0,none⟩:=by
  rcases hh.row.2 with ⟨e,_⟩ | ⟨g,c',cur,e,_⟩
  ·injection e with e1 e2 e3; omega
  ·injection e with e1 e2 e3; exact ⟨g,e1⟩
 obtain ⟨n,hn⟩ : ∃ n,l.length = n + 1:=⟨l.length - 1,by omega⟩
 obtain ⟨y,hy⟩ : ∃ y,l[n]? = some y:=⟨l[n]'(by omega),by simp⟩
 have hgne : gp ≠ g:=by
  rintro rfl
  obtain ⟨cur,e⟩:=hh.row.blk
  rw [hb] at e; cases e; exact hty rfl
 rw [hn] at hl hh hc ⊢
 have p0 : w.cell? ⟨gp,off,none⟩ = some (.slice (some ⟨g,0,none⟩) (n + 1) cc):=by rw [blk_cell hb]; exact hc
 have c0 : w.cell? ⟨g,0,none⟩ = some (.int .i64 x):=hh.row.cell (by rw [nz_get,hx]; rfl)
 have c1 : w.cell? ⟨g,n,none⟩ = some (.int .i64 y):=hh.row.cell (by rw [nz_get,hy]; rfl)
 have hcc : n ≤ cc:=by
  rcases hh.row.2 with ⟨e,_⟩ | ⟨g0,c0,cur,e,_,_,e3,_⟩
  ·cases e
  ·injection e with e1 e2 e4; rw [nz_len] at e3; omega
 have hS : g ∈ gp :: (Value.slice (some (⟨g,0,none⟩ : Addr)) (n + 1) cc).ownBlock.toList ∨ w.heap.size ≤ g:=.inl (by simp [Value.ownBlock])
 have hoff : off < arr.size:=(Array.getElem?_eq_some_iff.1 hc).1
 have HP0 : Hid (PoI B gp g n cc (.cells (arr.setIfInBounds off (.slice (some ⟨g,0,none⟩) n cc)) ty) (gp :: (Value.slice (some (⟨g,0,none⟩ : Addr)) (n + 1) cc).ownBlock.toList) w (fun z=>z ≠ x∧z ∈ l) ((w.setCell ⟨g,0,none⟩ (.int .i64 y)).setCell ⟨gp,off,none⟩ (.slice (some ⟨g,0,none⟩) n cc)) ((l.set 0 y).take n) 0):=by
  have hset:=OI.set hh.row 0 (y : Int) (by rw [nz_len]; omega)
  rw [nz_set] at hset
  have hshr:=OI.shrink hset n (by rw [nz_len,List.length_set]; omega)
  rw [nz_take] at hshr
  have hdn:=HP.dn_pop hh.hp y
  rw [hn,Nat.add_sub_cancel] at hdn
  have hget : ∀ (k z : Nat),((l.set 0 y).take n)[k]? = some z→k < n∧((k = 0∧z = y) ∨ (0 < k∧l[k]? = some z)):=fun k z hk=>by
   rw [List.getElem?_take] at hk
   split at hk
   ·rename_i hkn
    rw [List.getElem?_set] at hk
    split at hk
    ·rename_i e; subst e; first | (first | (rw [if_pos (by omega)] at hk; cases hk; exact ⟨hkn,.inl ⟨rfl,rfl⟩⟩) | (cases hk; exact ⟨hkn,.inl ⟨rfl,rfl⟩⟩)) | (cases hk; exact ⟨hkn,.inl ⟨rfl,rfl⟩⟩)
    ·rename_i e; exact ⟨hkn,.inr ⟨by omega,hk⟩⟩
   ·cases hk
  refine ⟨blk_set (blk_other hb (fun e=>hgne e.symm) 0 _) off _,ORow.set_own hshr (fun e=>hgne (by cases e; rfl)) off _,by simp; omega,hdn,?_,?_,?_⟩
  ·intro i j z hi hj
   obtain ⟨i1,i2⟩:=hget i z hi
   obtain ⟨j1,j2⟩:=hget j z hj
   rcases i2 with ⟨q1,q2⟩ | ⟨q1,q2⟩ <;> rcases j2 with ⟨r1,r2⟩ | ⟨r1,r2⟩
   ·omega
   ·subst q2; have:=hh.nd j n z r2 hy; omega
   ·subst r2; have:=hh.nd i n z q2 hy; omega
   ·exact hh.nd i j z q2 r2
  ·intro z
   constructor
   ·intro hz
    obtain ⟨k,hk⟩:=List.getElem?_of_mem hz
    obtain ⟨k1,k2⟩:=hget k z hk
    rcases k2 with ⟨q1,q2⟩ | ⟨q1,q2⟩
    ·subst q2
     exact ⟨fun e=>by subst e; have:=hh.nd 0 n z hx hy; omega,List.mem_of_getElem? hy⟩
    ·exact ⟨fun e=>by subst e; have:=hh.nd 0 k z hx q2; omega,List.mem_of_getElem? q2⟩
   ·rintro ⟨z1,z2⟩
    obtain ⟨k,hk⟩:=List.getElem?_of_mem z2
    have hkl:=(List.getElem?_eq_some_iff.1 hk).1
    by_cases e0 : k = 0
    ·subst e0; rw [hx] at hk; cases hk; exact absurd rfl z1
    ·by_cases en : k = n
     ·subst en
      rw [hy] at hk
      cases hk
      refine List.mem_of_getElem? (i:=0) ?_
      rw [List.getElem?_take,if_pos (by omega),List.getElem?_set,if_pos rfl,if_pos (by omega)]
     ·refine List.mem_of_getElem? (i:=k) ?_
      rw [List.getElem?_take,if_pos (by omega),List.getElem?_set,if_neg (by omega)]
      exact hk
  ·exact ((ButL.refl _ w).seto hS 0 _).set (by simp) off _
 have z0:=hh.row.froz
 have z1:=blk_frozen hb
 go_enter Tryz.func37,Tryz.ntmps37
 go_wp2_with fail
 go_quiet (fail)
 go_wp2_with fail
 clear hb hc hx hpos hh hy
 go_region
 go_wp2_with fail
 have HP1 : Hid (PoI B gp g n cc (.cells (arr.setIfInBounds off (.slice (some ⟨g,0,none⟩) n cc)) ty) (gp :: (Value.slice (some (⟨g,0,none⟩ : Addr)) (n + 1) cc).ownBlock.toList) w (fun z=>z ≠ x∧z ∈ l) (((w.drewN (nq + 1)).setCell ⟨g,0,none⟩ (.int .i64 y)).setCell ⟨gp,off,none⟩ (.slice (some ⟨g,0,none⟩) n cc)) ((l.set 0 y).take n) 0):=HP0.out.drewN (nq + 1)
 clear HP0 p0 c0 c1 z0 z1
 go_loopw [5,6] (fun a5 a6 wr=>∃ (i b : Nat) (l1 : List Nat),a5 = .int .i64 i∧a6 = .int .i64 b∧Hid (b = 2 * i + 1)∧Hid (PoI B gp g n cc (.cells (arr.setIfInBounds off (.slice (some ⟨g,0,none⟩) n cc)) ty) (gp :: (Value.slice (some (⟨g,0,none⟩ : Addr)) (n + 1) cc).ownBlock.toList) w (fun z=>z ≠ x∧z ∈ l) wr l1 i)) (fun a5 _ _=>n - (intOf a5).toNat)
 case atStart=>exact ⟨0,1,_,rfl,rfl,rfl,HP1⟩
 case round =>
  clear HP1
  obtain ⟨i,b,l1,rfl,rfl,HBi,HI⟩:=hrel
  have hbi : b = 2 * i + 1:=HBi.out
  by_cases hbn : b < n
  ·have hin : i < n:=by omega
   obtain ⟨u,hu⟩ : ∃ u,l1[i]? = some u:=⟨l1[i]'(by have:=HI.out.len; omega),by simp⟩
   obtain ⟨v,hv⟩ : ∃ v,l1[b]? = some v:=⟨l1[b]'(by have:=HI.out.len; omega),by simp⟩
   have p3 : wr.cell? ⟨gp,off,none⟩ = some (.slice (some ⟨g,0,none⟩) n cc):=by rw [blk_cell HI.out.blk]; simp [hoff]
   have z4:=HI.out.row.froz
   have c1 : wr.cell? ⟨g,i,none⟩ = some (.int .i64 u):=HI.out.row.cell (by rw [nz_get,hu]; rfl)
   have c2 : wr.cell? ⟨g,b,none⟩ = some (.int .i64 v):=HI.out.row.cell (by rw [nz_get,hv]; rfl)
   have HU : Hid (l1[i]? = some u):=hu
   have HV : Hid (l1[b]? = some v):=hv
   have b0 : (0 : Int) ≤ (i : Int):=by omega
   have b1 : (i : Int) < (n : Int):=by omega
   have b2 : (0 : Int) ≤ (b : Int):=by omega
   have b3 : (b : Int) < (n : Int):=by omega
   clear hu hv
   by_cases k1 : b + 1 < n
   ·obtain ⟨v2,hv2⟩ : ∃ v,l1[b + 1]? = some v:=⟨l1[b + 1]'(by have:=HI.out.len; omega),by simp⟩
    have c3 : wr.cell? ⟨g,b + 1,none⟩ = some (.int .i64 v2):=HI.out.row.cell (by rw [nz_get,hv2]; rfl)
    have HV2 : Hid (l1[b + 1]? = some v2):=hv2
    have t0 : (b : Int) + 1 < (n : Int):=by omega
    have t3 : (0 : Int) ≤ (b : Int) + 1:=by omega
    have t4 : ((b : Int) + 1).toNat = b + 1:=by omega
    clear hv2
    by_cases k2 : v2 < v
    ·have t1 : v2 < v:=k2
     have HM : Hid (∀ (k z : Nat),(k = 2 * i + 1 ∨ k = 2 * i + 2)→l1[k]? = some z→v2 ≤ z):=by
      rintro k z (e | e) hz
      ·rw [e,← hbi,HV.out] at hz; cases hz; omega
      ·rw [show k = b + 1 by omega,HV2.out] at hz; cases hz; exact Nat.le_refl _
     rcases Nat.lt_or_ge v2 u with k3 | k3
     rotate_left
     ·clear hbi
      have t2 : decide (u ≤ v2) = true:=by simp; omega
      go_wp2_with fail
      go_quiet (fail)
      revert nq
      intro nq0
      go_wp2_with fail
      go_quiet (fail)
      go_wp2_with fail
      go_ret
      exact ⟨rfl,_,l1,HI.out.blk,⟨HI.out.row,HI.out.dn.done (b:=(b + 1)) (by have h9 : b = 2 * i + 1:=HBi.out; omega) HU.out HV2.out (by omega) HM.out,HI.out.nd⟩,HI.out.mem,by rw [HI.out.len],((HI.out.drewN nq0).drewN nq).but,rfl⟩
     ·clear hbi
      have t2 : decide (u ≤ v2) = false:=by simp; omega
      go_wp2_with fail
      go_quiet (fail)
      revert nq
      intro nq0
      go_wp2_with fail
      go_quiet (fail)
      go_wp2_with fail
      have HE : Hid _:=(HI.out.drewN nq0).drewN nq
      obtain ⟨wq,hwq⟩ : ∃ wq,(wr.drewN nq0).drewN nq = wq:=⟨_,rfl⟩
      rw [hwq] at HE ⊢
      have d1 : wq.cell? ⟨g,i,none⟩ = some (.int .i64 u):=by rw [← hwq]; exact c1
      have d2 : wq.cell? ⟨g,(b + 1),none⟩ = some (.int .i64 v2):=by rw [← hwq]; exact c3
      have d3 : wq.cell? ⟨gp,off,none⟩ = some (.slice (some ⟨g,0,none⟩) n cc):=by rw [← hwq]; exact p3
      have z5:=HE.out.row.froz
      have d4 : (wq.setCell ⟨g,i,none⟩ (.int .i64 v2)).cell? ⟨g,(b + 1),none⟩ = some (.int .i64 v2):=(OI.set HE.out.row i v2 (by rw [nz_len,HE.out.len]; omega)).cell (by rw [List.getElem?_set_ne (by have h9 : b = 2 * i + 1:=HBi.out; omega),nz_get,HV2.out]; rfl)
      have z6 : ∀ k,(wq.setCell ⟨g,i,none⟩ (.int .i64 v2)).frozen? ⟨g,k,none⟩ = false:=(OI.set HE.out.row i v2 (by rw [nz_len,HE.out.len]; omega)).froz
      have HN : Hid _:=HE.out.step (j:=(b + 1)) (by have h9 : b = 2 * i + 1:=HBi.out; omega) HU.out HV2.out (by omega) HM.out hS hgne
      clear c1 c2 p3 z4 hwq c3
      go_region
      go_wp2_with fail
      go_roundw
      case rel=>exact ⟨(b + 1),2 * (b + 1) + 1,_,by go_num,by go_num,rfl,HN.out.drewN 1⟩
      case measure=>have h9 : b = 2 * i + 1:=HBi.out; simp [intOf]; omega
    ·have t1 : decide (v2 < v) = false:=by simpa using k2
     have HM : Hid (∀ (k z : Nat),(k = 2 * i + 1 ∨ k = 2 * i + 2)→l1[k]? = some z→v ≤ z):=by
      rintro k z (e | e) hz
      ·rw [e,← hbi,HV.out] at hz; cases hz; exact Nat.le_refl _
      ·rw [show k = b + 1 by omega,HV2.out] at hz; cases hz; omega
     rcases Nat.lt_or_ge v u with k3 | k3
     rotate_left
     ·clear hbi
      have t2 : decide (u ≤ v) = true:=by simp; omega
      go_wp2_with fail
      go_quiet (fail)
      revert nq
      intro nq0
      go_wp2_with fail
      go_quiet (fail)
      go_wp2_with fail
      go_ret
      exact ⟨rfl,_,l1,HI.out.blk,⟨HI.out.row,HI.out.dn.done (b:=b) (by have h9 : b = 2 * i + 1:=HBi.out; omega) HU.out HV.out (by omega) HM.out,HI.out.nd⟩,HI.out.mem,by rw [HI.out.len],((HI.out.drewN nq0).drewN nq).but,rfl⟩
     ·clear hbi
      have t2 : decide (u ≤ v) = false:=by simp; omega
      go_wp2_with fail
      go_quiet (fail)
      revert nq
      intro nq0
      go_wp2_with fail
      go_quiet (fail)
      go_wp2_with fail
      have HE : Hid _:=(HI.out.drewN nq0).drewN nq
      obtain ⟨wq,hwq⟩ : ∃ wq,(wr.drewN nq0).drewN nq = wq:=⟨_,rfl⟩
      rw [hwq] at HE ⊢
      have d1 : wq.cell? ⟨g,i,none⟩ = some (.int .i64 u):=by rw [← hwq]; exact c1
      have d2 : wq.cell? ⟨g,b,none⟩ = some (.int .i64 v):=by rw [← hwq]; exact c2
      have d3 : wq.cell? ⟨gp,off,none⟩ = some (.slice (some ⟨g,0,none⟩) n cc):=by rw [← hwq]; exact p3
      have z5:=HE.out.row.froz
      have d4 : (wq.setCell ⟨g,i,none⟩ (.int .i64 v)).cell? ⟨g,b,none⟩ = some (.int .i64 v):=(OI.set HE.out.row i v (by rw [nz_len,HE.out.len]; omega)).cell (by rw [List.getElem?_set_ne (by have h9 : b = 2 * i + 1:=HBi.out; omega),nz_get,HV.out]; rfl)
      have z6 : ∀ k,(wq.setCell ⟨g,i,none⟩ (.int .i64 v)).frozen? ⟨g,k,none⟩ = false:=(OI.set HE.out.row i v (by rw [nz_len,HE.out.len]; omega)).froz
      have HN : Hid _:=HE.out.step (j:=b) (by have h9 : b = 2 * i + 1:=HBi.out; omega) HU.out HV.out (by omega) HM.out hS hgne
      clear c1 c2 p3 z4 hwq c3
      go_region
      go_wp2_with fail
      go_roundw
      case rel=>exact ⟨b,2 * b + 1,_,by go_num,by go_num,rfl,HN.out.drewN 1⟩
      case measure=>have h9 : b = 2 * i + 1:=HBi.out; simp [intOf]; omega
   ·have t0 : decide ((b : Int) + 1 < (n : Int)) = false:=by simp; omega
    have HM : Hid (∀ (k z : Nat),(k = 2 * i + 1 ∨ k = 2 * i + 2)→l1[k]? = some z→v ≤ z):=by
     rintro k z (e | e) hz
     ·rw [e,← hbi,HV.out] at hz; cases hz; exact Nat.le_refl _
     ·have:=(List.getElem?_eq_some_iff.1 hz).1; have:=HI.out.len; omega
    rcases Nat.lt_or_ge v u with k3 | k3
    rotate_left
    ·clear hbi
     have t2 : decide (u ≤ v) = true:=by simp; omega
     go_wp2_with fail
     go_quiet (fail)
     revert nq
     intro nq0
     go_wp2_with fail
     go_quiet (fail)
     go_wp2_with fail
     go_ret
     exact ⟨rfl,_,l1,HI.out.blk,⟨HI.out.row,HI.out.dn.done (b:=b) (by have h9 : b = 2 * i + 1:=HBi.out; omega) HU.out HV.out (by omega) HM.out,HI.out.nd⟩,HI.out.mem,by rw [HI.out.len],((HI.out.drewN nq0).drewN nq).but,rfl⟩
    ·clear hbi
     have t2 : decide (u ≤ v) = false:=by simp; omega
     go_wp2_with fail
     go_quiet (fail)
     revert nq
     intro nq0
     go_wp2_with fail
     go_quiet (fail)
     go_wp2_with fail
     have HE : Hid _:=(HI.out.drewN nq0).drewN nq
     obtain ⟨wq,hwq⟩ : ∃ wq,(wr.drewN nq0).drewN nq = wq:=⟨_,rfl⟩
     rw [hwq] at HE ⊢
     have d1 : wq.cell? ⟨g,i,none⟩ = some (.int .i64 u):=by rw [← hwq]; exact c1
     have d2 : wq.cell? ⟨g,b,none⟩ = some (.int .i64 v):=by rw [← hwq]; exact c2
     have d3 : wq.cell? ⟨gp,off,none⟩ = some (.slice (some ⟨g,0,none⟩) n cc):=by rw [← hwq]; exact p3
     have z5:=HE.out.row.froz
     have d4 : (wq.setCell ⟨g,i,none⟩ (.int .i64 v)).cell? ⟨g,b,none⟩ = some (.int .i64 v):=(OI.set HE.out.row i v (by rw [nz_len,HE.out.len]; omega)).cell (by rw [List.getElem?_set_ne (by have h9 : b = 2 * i + 1:=HBi.out; omega),nz_get,HV.out]; rfl)
     have z6 : ∀ k,(wq.setCell ⟨g,i,none⟩ (.int .i64 v)).frozen? ⟨g,k,none⟩ = false:=(OI.set HE.out.row i v (by rw [nz_len,HE.out.len]; omega)).froz
     have HN : Hid _:=HE.out.step (j:=b) (by have h9 : b = 2 * i + 1:=HBi.out; omega) HU.out HV.out (by omega) HM.out hS hgne
     clear c1 c2 p3 z4 hwq
     go_region
     go_wp2_with fail
     go_roundw
     case rel=>exact ⟨b,2 * b + 1,_,by go_num,by go_num,rfl,HN.out.drewN 1⟩
     case measure=>have h9 : b = 2 * i + 1:=HBi.out; simp [intOf]; omega
  ·have t0 : decide (b < n) = false:=by simpa using hbn
   go_wp2_with fail
   go_ret
   exact ⟨rfl,_,l1,HI.out.blk,⟨HI.out.row,HI.out.dn.leaf (by rw [HI.out.len]; omega),HI.out.nd⟩,HI.out.mem,by rw [HI.out.len],HI.out.but,rfl⟩
end Go.Proofs.YtjglgbepobmjhaaGreatDoor
