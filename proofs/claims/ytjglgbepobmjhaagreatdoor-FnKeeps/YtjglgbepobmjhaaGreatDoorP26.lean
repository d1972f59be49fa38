import Derived.Test.YtjglgbepobmjhaaGreatDoorP19
import Derived.Test.YtjglgbepobmjhaaGreatDoorP15
import Derived.Test.YtjglgbepobmjhaaGreatDoorP08
import Derived.Test.YtjglgbepobmjhaaGreatDoorP06
import Derived.Lib.SliceRun
import Derived.Test.YtjglgbepobmjhaaGreatDoorP12
import Derived.Test.YtjglgbepobmjhaaGreatDoorP09
set_option linter.unusedVariables false
set_option linter.unusedSimpArgs false
set_option maxRecDepth 20000
set_option maxHeartbeats 8000000
namespace Go.Proofs.YtjglgbepobmjhaaGreatDoor
open Go.RowKit
def Rch (s : WkS) (a : Nat) : Prop:=∃ x,s.st[a]? = some (some x)
def Clo (ins : List ID) (s : WkS) : Prop:=∀ (a : Nat) n,ins[a]? = some n→Rch s a→s.due[a]? ≠ some true→∀ t ∈ silentV n a,Rch s t
theorem reachW_hit {s s' : WkS} {t : Nat} {x : SD} (h : reachW s t x = some s') (ht : t < s.st.length) : Rch s' t:=by
 unfold reachW at h
 split at h
 ·cases h
  exact ⟨x,by dsimp only; rw [List.getElem?_set,if_pos rfl,if_pos ht]⟩
 ·rename_i y hy
  split at h
  ·cases h
   refine ⟨y,?_⟩
   rw [List.getD_eq_getElem?_getD,List.getElem?_eq_getElem ht] at hy
   rw [List.getElem?_eq_getElem ht]
   simpa using hy
  ·cases h
theorem reachW_due {s s' : WkS} {t : Nat} {x : SD} (h : reachW s t x = some s') {b : Nat} (hb : s.due[b]? = some true) : s'.due[b]? = some true:=by
 unfold reachW at h
 split at h
 ·cases h
  dsimp only
  rw [List.getElem?_set]
  split
  ·rename_i e
   subst e
   rw [if_pos (List.getElem?_eq_some_iff.1 hb).1]
  ·exact hb
 ·split at h
  ·cases h; exact hb
  ·cases h
theorem reachW_new {s s' : WkS} {t : Nat} {x : SD} (h : reachW s t x = some s') (hl : s.st.length = s.due.length) {b : Nat} (hb : Rch s' b) : Rch s b ∨ s'.due[b]? = some true:=by
 unfold reachW at h
 split at h
 ·cases h
  obtain ⟨y,hy⟩:=hb
  dsimp only at hy ⊢
  rw [List.getElem?_set] at hy ⊢
  split at hy
  ·rename_i e
   subst e
   split at hy
   ·rename_i hlt
    right
    rw [if_pos rfl,if_pos (by omega)]
   ·cases hy
  ·exact .inl ⟨y,hy⟩
 ·split at h
  ·cases h; exact .inl hb
  ·cases h
theorem leadW_all {l : List (Nat × SD)} {s s' : WkS} (hl : s.st.length = s.due.length) (h : leadW l s = .ok s') : (∀ b,Rch s b→Rch s' b)∧(∀ b : Nat,s.due[b]? = some true→s'.due[b]? = some true)∧(∀ b,Rch s' b→Rch s b ∨ s'.due[b]? = some true)∧(∀ z ∈ l,z.1 < s.st.length→Rch s' z.1):=by
 induction l generalizing s with
 | nil=>cases h; exact ⟨fun _ h=>h,fun _ h=>h,fun _ h=>.inl h,fun z hz=>by cases hz⟩
 | cons x l ih =>
  unfold leadW at h
  split at h
  ·rename_i s1 h1
   obtain ⟨e1,e2⟩:=reachW_len h1
   obtain ⟨i1,i2,i3,i4⟩:=ih (by omega) h
   refine ⟨fun b hb=>?_,fun b hb=>i2 b (reachW_due h1 hb),fun b hb=>?_,fun z hz hlt=>?_⟩
   ·obtain ⟨y,hy⟩:=hb
    exact i1 b ⟨y,reachW_keep h1 hy⟩
   ·rcases i3 b hb with q | q
    ·rcases reachW_new h1 hl q with r | r
     ·exact .inl r
     ·exact .inr (i2 b r)
    ·exact .inr q
   ·rcases List.mem_cons.1 hz with rfl | hz
    ·exact i1 _ (reachW_hit h1 hlt)
    ·exact i4 z hz (by omega)
  ·cases h
theorem silent_follow {n : ID} {a t : Nat} {x y : SD} (h : t ∈ silentV n a) : ∃ z,(t,z) ∈ followV n a x y:=by
 unfold silentV at h
 unfold followV
 rcases List.mem_append.1 h with h | h
 ·split at h
  ·rename_i hg
   simp only [Bool.and_eq_true] at hg
   simp at h
   subst h
   exact ⟨y,List.mem_append_left _ (by rw [if_pos hg.1]; simp)⟩
  ·cases h
 ·cases ht : targetV n with
  | none=>rw [ht] at h; cases h
  | some t' =>
   rw [ht] at h
   simp at h
   subst h
   exact ⟨_,List.mem_append_right _ (List.mem_singleton.2 rfl)⟩
theorem Clo.pass {regs nI : Nat} {c : List FD} {ins : List ID} {a : Nat} {s s' : WkS} (h : Clo ins s) (hi : ∀ n ∈ ins,InsOk regs nI n) (hg : ∀ (a : Nat) n,ins[a]? = some n→goesV n.op = true→a + 1 < nI) (ha : a < ins.length) (hok : WOk regs nI s) (hp : passW c ins a s = .ok s') : Clo ins s':=by
 have hna : ins[a]? = some ins[a]:=List.getElem?_eq_getElem ha
 have hgd : ins.getD a id0 = ins[a]:=by rw [List.getD_eq_getElem?_getD,hna]; rfl
 unfold passW at hp
 split at hp
 ·cases hp
 ·rename_i x hx
  split at hp
  ·cases hp
  ·rename_i y hy
   split at hp
   ·cases hp
   ·rename_i s1 h1
    cases hp
    obtain ⟨i1,i2,i3,i4⟩:=leadW_all (s:=⟨s.st,s.due.set a false⟩) (by simp [hok.l1,hok.l2]) h1
    rw [hgd] at i4
    intro b n hn hb hd t ht
    by_cases e : b = a
    ·subst e
     rw [hna] at hn
     cases hn
     obtain ⟨z,hz⟩:=silent_follow (x:=x) (y:=y) ht
     have hlt:=followV_lt (hi _ (List.getElem_mem ha)) (hg b _ hna) _ hz
     exact i4 _ hz (by rw [hok.l1]; exact hlt)
    ·rcases i3 b hb with q | q
     ·have hd' : s.due[b]? ≠ some true:=fun e'=>hd (i2 b (by dsimp only; rw [List.getElem?_set,if_neg (fun q=>e q.symm)]; exact e'))
      exact i1 t (h b n hn q hd' t ht)
     ·exact absurd q hd
theorem Clo.start (d : FD) : Clo d.ins (startS d):=by
 intro a n hn hb hd t ht
 obtain ⟨x,hx⟩:=hb
 cases a with
 | zero=>exact absurd rfl hd
 | succ a =>
  simp only [startS,List.getElem?_cons_succ,List.getElem?_replicate] at hx
  split at hx <;> cases hx
def slLen : Option Value→Nat
 | some (.slice _ n _)=>n
 | _=>0
structure RuI (c : List FD) (ins : List ID) (R : Except (Nat × Nat) WkS) (nR : Nat) (W0 : World) (gW gS nI p : Nat) (cv iv : Value) (w wr : World) (zs : List SR) (hv : Value) (due : List Bool) : Prop where
 wl : WlV W0.heap.size gW gS nI p cv iv wr zs hv due
 run : ∃ k,Runs c ins k ⟨zs.map SR.o,due⟩ R
 ok : WOk nR nI ⟨zs.map SR.o,due⟩
 gz : WZg ⟨zs.map SR.o,due⟩
 but : ButL [gW,gS] w wr
 own : ∀ g,hv.ownBlock = some g→w.heap.size ≤ g
 low : Below W0.heap.size W0 wr
 clo : Clo ins ⟨zs.map SR.o,due⟩
theorem RuI.muv {c : List FD} {ins : List ID} {R : Except (Nat × Nat) WkS} {nR : Nat} {W0 : World} {gW gS nI p : Nat} {cv iv : Value} {w wr : World} {zs : List SR} {hv : Value} {due : List Bool} (h : RuI c ins R nR W0 gW gS nI p cv iv w wr zs hv due) : 2 * cntB false wr gS + slLen (wr.cell? ⟨gW,4,none⟩) = mu ⟨zs.map SR.o,due⟩:=by
 obtain ⟨l,h1,_,h3⟩:=h.wl.hp
 obtain ⟨a,cap,e⟩:=h1.row.val
 rw [h.wl.cells.2.2.2.2,h.wl.st.cnt,e,nz_len]
 unfold mu
 simp only [slLen]
 omega
theorem runs_step {c : List FD} {ins : List ID} {k a : Nat} {s : WkS} {R : Except (Nat × Nat) WkS} (h : Runs c ins k s R) (ha : IsLeast s.due a) : (∀ e,passW c ins a s = .error e→R = .error e)∧(∀ s',passW c ins a s = .ok s'→∃ k',Runs c ins k' s' R):=by
 cases k with
 | zero =>
  rcases h with ⟨h1,rfl⟩ | ⟨b,e,h1,h2,rfl⟩
  ·exact absurd ha.1 (h1 a)
  ·cases h1.uniq ha
   rw [h2]
   exact ⟨(fun e' he=>by cases he; rfl),(fun s' hs=>by cases hs)⟩
 | succ k =>
  obtain ⟨b,s1,h1,h2,h3⟩:=h
  cases h1.uniq ha
  rw [h2]
  exact ⟨(fun e' he=>by cases he),fun s' hs=>by cases hs; exact ⟨k,h3⟩⟩
theorem runs_end {c : List FD} {ins : List ID} {k : Nat} {s : WkS} {R : Except (Nat × Nat) WkS} (h : Runs c ins k s R) (ha : AllOff s.due) : R = .ok s:=by
 cases k with
 | zero =>
  rcases h with ⟨_,rfl⟩ | ⟨b,e,h1,_⟩
  ·rfl
  ·exact absurd h1.1 (ha b)
 | succ k =>
  obtain ⟨b,s1,h1,_⟩:=h
  exact absurd h1.1 (ha b)
theorem heap_least {w : World} {B : Nat} {hv : Value} {due : List Bool} {l : List Nat} {x : Nat} (h1 : HpV w B hv l) (h2 : ∀ z,z ∈ l ↔ due[z]? = some true) (hx : l[0]? = some x) : IsLeast due x:=by
 refine ⟨(h2 x).1 (List.mem_of_getElem? hx),fun b hb e=>?_⟩
 have hm:=(h2 b).2 e
 obtain ⟨i,hi⟩:=List.mem_iff_getElem?.1 hm
 have:=h1.hp.least hx i b hi
 omega
theorem WlV.popped {B gW gS nI p x : Nat} {cv iv : Value} {w w' : World} {zs : List SR} {hv hv' : Value} {due : List Bool} {l l' : List Nat} (h : WlV B gW gS nI p cv iv w zs hv due) (h2 : ∀ z,z ∈ l ↔ due[z]? = some true) (h3 : l.length = due.countP (· == true)) (hx : due[x]? = some true) (q1 : w'.heap[gW]? = some (.cells ((#[cv,.int .i64 p,iv,.slice (some ⟨gS,0,none⟩) nI nI,hv] : Array Value).setIfInBounds 4 hv') 77)) (q2 : HpV w' B hv' l') (q3 : ∀ z,z ∈ l' ↔ z ≠ x∧z ∈ l) (q4 : l'.length + 1 = l.length) (q5 : ButL (gW :: hv.ownBlock.toList) w w') (q6 : hv'.ownBlock = hv.ownBlock) : WlV B gW gS nI p cv iv w' zs hv' (due.set x false):=by
 obtain ⟨k1,k2⟩:=due_pop hx h2 h3 q3 q4
 exact h.heaped q5 (by simpa using q1) ⟨l',q2,k1,k2⟩ (by simpa using h.dul) (fun g e=>.inl (by rw [← q6]; exact e))
theorem start_states (d : FD) (nI : Nat) (h : d.ins.length = nI) (h0 : 0 < nI) : reachW ⟨(List.replicate nI sr0).map SR.o,List.replicate nI false⟩ 0 ⟨startT d.params.toNat d.regs.toNat d.rest,[]⟩ = some (startS d):=by
 obtain ⟨m,rfl⟩ : ∃ m,nI = m + 1:=⟨nI - 1,by omega⟩
 unfold reachW startS
 rw [h]
 simp [sr0,List.replicate_succ]
def RnA (B gW gS nI p : Nat) (cv iv : Value) (R : Except (Nat × Nat) WkS) (d : FD) (e : Ending) (w' : World) : Prop:=match R with
 | .error x=>e = .returned (EV (some ((x.1 : Int),(p : Int),(x.2 : Int))))
 | .ok s=>(∃ i : Nat,LeastRd s (EE d) i∧e = .returned (EV (some (14,(p : Int),(i : Int))))) ∨ ((∀ i : Nat,(∃ x,s.st[i]? = some (some x))→¬ TJ.Cyc (EE d) i)∧e = .returned (EV none)∧∃ zs hv,WlV B gW gS nI p cv iv w' zs hv s.due∧zs.map SR.o = s.st)
def LrP (st : List (Option SD)) (d : FD) (o : Option Nat) : Prop:=match o with
 | none=>∀ i : Nat,(∃ x,st[i]? = some (some x))→¬ TJ.Cyc (EE d) i
 | some i=>∀ due,LeastRd ⟨st,due⟩ (EE d) i
def zer (o : Nat) : Nat→List Int→List Int
 | 0,ts=>ts
 | m + 1,ts=>zer (o + 1) m (ts.set o 0)
theorem zer_len (m : Nat) : ∀ (o : Nat) (ts : List Int),(zer o m ts).length = ts.length:=by
 induction m with
 | zero=>intro o ts; rfl
 | succ m ih=>intro o ts; unfold zer; rw [ih]; simp
theorem zer_get (m : Nat) : ∀ (o : Nat) (ts : List Int) (i : Nat),(zer o m ts)[i]? = if o ≤ i∧i < o + m∧i < ts.length then some 0 else ts[i]?:=by
 induction m with
 | zero=>intro o ts i; unfold zer; rw [if_neg (by omega)]
 | succ m ih =>
  intro o ts i
  unfold zer
  rw [ih,List.getElem?_set,List.length_set]
  by_cases h : o = i
  ·subst h
   rw [if_neg (by omega),if_pos rfl]
   by_cases h2 : o < ts.length
   ·rw [if_pos h2,if_pos (by omega)]
   ·rw [if_neg h2,if_neg (by omega),List.getElem?_eq_none (by omega)]
  ·rw [if_neg h]
   by_cases h2 : o + 1 ≤ i∧i < o + 1 + m∧i < ts.length
   ·rw [if_pos h2,if_pos (by omega)]
   ·rw [if_neg h2,if_neg (by omega)]
theorem caught_eq (ts : List Int) (k : Nat) (h : k + 2 ≤ ts.length) : ((zer k (ts.length - k) ts).set k 1).set (k + 1) 1 = (ts.take k ++ [1,1]) ++ List.replicate (ts.length - k - 2) 0:=by
 apply List.ext_getElem?
 intro i
 rw [List.getElem?_set,List.getElem?_set,List.length_set,zer_len,zer_get]
 by_cases h1 : i < k
 ·rw [if_neg (by omega),if_neg (by omega),if_neg (by omega),List.getElem?_append_left (by simp; omega),List.getElem?_append_left (by simp; omega),List.getElem?_take_of_lt h1]
 ·by_cases h2 : i = k
  ·subst h2
   rw [if_neg (by omega),if_pos rfl,if_pos (by omega),List.getElem?_append_left (by simp; omega),List.getElem?_append_right (by simp; omega)]
   simp [Nat.min_eq_left (show i ≤ ts.length by omega)]
  ·by_cases h3 : i = k + 1
   ·subst h3
    rw [if_pos rfl,if_pos (by omega),List.getElem?_append_left (by simp; omega),List.getElem?_append_right (by simp; omega)]
    simp [Nat.min_eq_left (show k ≤ ts.length by omega)]
   ·rw [if_neg (by omega),if_neg (by omega),List.getElem?_append_right (by simp; omega),List.getElem?_replicate]
    simp only [List.length_append,List.length_take,List.length_cons,List.length_nil]
    rw [Nat.min_eq_left (show k ≤ ts.length by omega)]
    by_cases h4 : i < ts.length
    ·rw [if_pos (by omega),if_pos (by omega)]
    ·rw [if_neg (by omega),if_neg (by omega),List.getElem?_eq_none (by omega)]
theorem OI.zero (m : Nat) : ∀ (o : Nat) {w : World} {B g n cap : Nat} {ts : List Int},OI w B (.slice (some ⟨g,0,none⟩) n cap) ts→o + m ≤ ts.length→OI (w.setCells g o (List.replicate m (.int .i64 0))) B (.slice (some ⟨g,0,none⟩) n cap) (zer o m ts):=by
 induction m with
 | zero=>intro o w B g n cap ts h hm; exact h
 | succ m ih =>
  intro o w B g n cap ts h hm
  rw [List.replicate_succ]
  unfold World.setCells zer
  exact ih (o + 1) (h.set o 0 (by omega)) (by simp; omega)
theorem ButL.zero {S : List Nat} {w0 : World} {g : Nat} (hg : g ∈ S ∨ w0.heap.size ≤ g) (m : Nat) : ∀ (o : Nat) {w : World},ButL S w0 w→ButL S w0 (w.setCells g o (List.replicate m (.int .i64 0))):=by
 induction m with
 | zero=>intro o w h; exact h
 | succ m ih =>
  intro o w h
  rw [List.replicate_succ]
  unfold World.setCells
  exact ih (o + 1) (h.seto hg o _)
theorem blk_many {g i : Nat} {o : Obj} (hne : g ≠ i) : ∀ (vs : List Value) (k : Nat) {w : World},w.heap[i]? = some o→(w.setCells g k vs).heap[i]? = some o
 | [],_,_,h=>h
 | v :: r,k,_,h=>blk_many hne r (k + 1) (blk_other h hne k v)
theorem zeroInt (w : World) : (zeroValue 3).run Tryz.prog w = .ok (.int .i64 0) w:=by kernel_rfl
theorem run_clr (w : World) (ty : TypeId) (g k n cap : Nat) {B N C : Nat} {ts : List Int} (h : OI w B (.slice (some ⟨g,0,none⟩) N C) ts) (hn : 0 < n) (hk : k + n ≤ ts.length) : (Builtin.clear_ #[54] ty #[.slice (some ⟨g,k,none⟩) n cap]).run Tryz.prog w = .ok (.tuple #[]) (w.setCells g k (List.replicate n (.int .i64 0))) :=
 Lib.run_clear_slice w 54 3 ty (.int .i64 0) Tryz.underlying54 zeroInt rfl rfl g k n cap hn (fun j hj=>by
  obtain ⟨z,hz⟩ : ∃ z,ts[k + j]? = some z:=⟨ts[k + j]'(by omega),by simp⟩
  rw [h.cell hz]; rfl) (fun j hj=>h.froz (k + j))
theorem start_false (f : FC) (nR nP : Nat) (w : World) (h1 : f.d.regs = nR) (h3 : f.d.params = nP) (hrest : f.d.rest = false) (hR1 : nR ≤ 250) (hP : nP + 0 ≤ nR) :
  Calls Tryz.prog 35 #[PV f] w fun e w'=>(∃ tv',e = .returned (.agg #[.bool false,tv',.slice none 0 0])∧OI w' w.heap.size tv' (startT nP nR false))∧Below w.heap.size w w':=by
 obtain ⟨d,au,cu,ad,cd,ai,ci,an,cn⟩:=f
 obtain ⟨name,line,params,rest,regs,ups,consts,ins,named⟩:=d
 dsimp only at h1 h3 hrest
 subst h1 h3 hrest
 have hmI:=fun W=>make_int nR (by omega) W
 obtain ⟨W2,hW2⟩ : ∃ W2,((w.alloc (.cells #[.string name,.int .i64 line,.int .i64 (nP : Int),.bool false,.int .i64 (nR : Int),.slice au ups.length cu,.slice ad consts.length cd,.slice ai ins.length ci,.slice an named.length cn] 53)).alloc (.cells #[.bool false,.slice none 0 0,.slice none 0 0] 118)).alloc (.cells (Array.replicate nR (Value.int .i64 0)) 3) = W2:=⟨_,rfl⟩
 have HB0 : Hid (W2.heap[w.heap.size]? = some (.cells #[.string name,.int .i64 line,.int .i64 (nP : Int),.bool false,.int .i64 (nR : Int),.slice au ups.length cu,.slice ad consts.length cd,.slice ai ins.length ci,.slice an named.length cn] 53)):=by show _ = _; rw [← hW2]; exact blk_old (blk_old (blk_new _ _) _) _
 have p2 : W2.cell? ⟨w.heap.size,2,none⟩ = some (.int .i64 (nP : Int)):=by rw [blk_cell HB0.out]; rfl
 have HT6 : Hid (TyAt W2 (w.heap.size + 1 + 1) nR (List.replicate nR 0)):=ty_made nR (by rw [← hW2,List.toArray_replicate]; exact blk_newn (by simp) _)
 have HSL : Hid (W2.heap[w.heap.size + 1]? = some (.cells #[.bool false,.slice none 0 0,.slice none 0 0] 118)):=by show _ = _; rw [← hW2]; exact blk_old (blk_newn (by simp) _) _
 have HBW : Hid (Below w.heap.size w W2):=by show Below _ _ _; rw [← hW2]; exact bw3 _ _ _ _
 go_enter Tryz.func35,Tryz.ntmps35
 go_wp2_with fail
 clear hmI hW2 p2
 go_loopw [10] (fun r wr=>∃ m : Nat,m ≤ nP∧r = .int .i64 m∧Hid (But (w.heap.size + 1 + 1) W2 wr)∧Hid (TyAt wr (w.heap.size + 1 + 1) nR (List.replicate m 1 ++ List.replicate (nR - m) 0))) (fun r _=>nP - (intOf r).toNat)
 case atStart =>
  exact ⟨0,Nat.zero_le _,rfl,But.of_below (Below.refl _ _),by simpa using HT6⟩
 case round =>
  obtain ⟨m,hm,rfl,HBT,HT⟩:=hrel
  have hTl : (List.replicate m (1 : Int) ++ List.replicate (nR - m) 0).length = nR:=by simp; omega
  have P2 : Hid (wr.heap[w.heap.size]? = some (.cells #[.string name,.int .i64 line,.int .i64 (nP : Int),.bool false,.int .i64 (nR : Int),.slice au ups.length cu,.slice ad consts.length cd,.slice ai ins.length ci,.slice an named.length cn] 53)):=(HBT.out.block _ (blk_lt HB0.out) (by omega)).trans HB0.out
  have j2 : wr.cell? ⟨w.heap.size,2,none⟩ = some (.int .i64 (nP : Int)):=by rw [blk_cell P2.out]; rfl
  have j3 : wr.cell? ⟨w.heap.size,3,none⟩ = some (.bool false):=by rw [blk_cell P2.out]; rfl
  by_cases k1 : m < nP
  ·have hmR : m < nR:=by omega
   have hcell:=HT.out.cell (i:=m) (by omega)
   have hfz:=HT.out.froz m
   have hlt:=HT.out.lt
   have HT2 : Hid (TyAt (wr.setCell ⟨w.heap.size + 1 + 1,m,none⟩ (.int .i64 1)) (w.heap.size + 1 + 1) nR (List.replicate (m + 1) 1 ++ List.replicate (nR - (m + 1)) 0)):=by show TyAt _ _ _ _; rw [← ones_set m nR hmR]; exact HT.out.set m 1
   have HB6 : Hid (But (w.heap.size + 1 + 1) W2 (wr.setCell ⟨w.heap.size + 1 + 1,m,none⟩ (.int .i64 1))):=HBT.out.set m _
   clear HT HBT
   go_wp2_with fail
   go_roundw
   case rel=>exact ⟨m + 1,by omega,by go_num,HB6,HT2⟩
   case measure=>simp [intOf]; omega
  ·have hml : m = nP:=by omega
   subst hml
   have HT2 : Hid (TyAt wr (w.heap.size + 1 + 1) nR (startT m nR false)):=HT.out
   have HB6 : Hid (But (w.heap.size + 1 + 1) W2 wr):=HBT.out
   clear HT HBT
   have HS5 : Hid (wr.heap[w.heap.size + 1]? = some (.cells #[.bool false,.slice none 0 0,.slice none 0 0] 118)):=(HB6.out.block _ (blk_lt HSL.out) (by omega)).trans HSL.out
   have b0 : wr.cell? ⟨w.heap.size + 1,0,none⟩ = some (.bool false):=by rw [blk_cell HS5.out]; rfl
   have b1 : wr.cell? ⟨w.heap.size + 1,1,none⟩ = some (.slice none 0 0):=by rw [blk_cell HS5.out]; rfl
   have b2 : wr.cell? ⟨w.heap.size + 1,2,none⟩ = some (.slice none 0 0):=by rw [blk_cell HS5.out]; rfl
   have fz:=blk_frozen HS5.out
   have h9:=HT2.out.own (B:=w.heap.size) (by omega) (by omega)
   rw [startT_len _ _ _ (by omega)] at h9
   have HO : Hid (OI wr w.heap.size (.slice (some ⟨w.heap.size + 1 + 1,0,none⟩) nR nR) (startT m nR false)):=h9
   have HB9 : Hid (Below w.heap.size w wr):=But.below HBW.out HB6.out (by omega) HBW.out.size
   clear h9 HT2 HB6 HS5 P2
   go_wp2_with fail
   refine bodyPost_ret (v:=.agg #[.bool false,.slice (some ⟨w.heap.size + 1 + 1,0,none⟩) nR nR,.slice none 0 0]) (by simp [results,Tryz.results35,go_sem,b0,b1,b2]) rfl ⟨⟨_,rfl,?_⟩,?_⟩
   ·have q : (Value.slice (some ⟨w.heap.size + 1 + 1,0,none⟩) nR nR).ownBlock ≠ some (w.heap.size + 1):=fun e=>by
     have e' : some (w.heap.size + 1 + 1) = some (w.heap.size + 1):=e
     injection e' with e'; omega
    exact ORow.set_own (ORow.set_own (ORow.set_own HO.out q _ _) q _ _) q _ _
   ·exact ButL.nil ((((ButL.of_below HB9.out).setn (by omega) _ _).setn (by omega) _ _).setn (by omega) _ _)
theorem start_true (f : FC) (nR nP : Nat) (w : World) (h1 : f.d.regs = nR) (h3 : f.d.params = nP) (hrest : f.d.rest = true) (hR1 : nR ≤ 250) (hP : nP + 1 ≤ nR) :
  Calls Tryz.prog 35 #[PV f] w fun e w'=>(∃ tv',e = .returned (.agg #[.bool false,tv',.slice none 0 0])∧OI w' w.heap.size tv' (startT nP nR true))∧Below w.heap.size w w':=by
 obtain ⟨d,au,cu,ad,cd,ai,ci,an,cn⟩:=f
 obtain ⟨name,line,params,rest,regs,ups,consts,ins,named⟩:=d
 dsimp only at h1 h3 hrest
 subst h1 h3 hrest
 have hmI:=fun W=>make_int nR (by omega) W
 obtain ⟨W2,hW2⟩ : ∃ W2,((w.alloc (.cells #[.string name,.int .i64 line,.int .i64 (nP : Int),.bool true,.int .i64 (nR : Int),.slice au ups.length cu,.slice ad consts.length cd,.slice ai ins.length ci,.slice an named.length cn] 53)).alloc (.cells #[.bool false,.slice none 0 0,.slice none 0 0] 118)).alloc (.cells (Array.replicate nR (Value.int .i64 0)) 3) = W2:=⟨_,rfl⟩
 have HB0 : Hid (W2.heap[w.heap.size]? = some (.cells #[.string name,.int .i64 line,.int .i64 (nP : Int),.bool true,.int .i64 (nR : Int),.slice au ups.length cu,.slice ad consts.length cd,.slice ai ins.length ci,.slice an named.length cn] 53)):=by show _ = _; rw [← hW2]; exact blk_old (blk_old (blk_new _ _) _) _
 have p2 : W2.cell? ⟨w.heap.size,2,none⟩ = some (.int .i64 (nP : Int)):=by rw [blk_cell HB0.out]; rfl
 have HT6 : Hid (TyAt W2 (w.heap.size + 1 + 1) nR (List.replicate nR 0)):=ty_made nR (by rw [← hW2,List.toArray_replicate]; exact blk_newn (by simp) _)
 have HSL : Hid (W2.heap[w.heap.size + 1]? = some (.cells #[.bool false,.slice none 0 0,.slice none 0 0] 118)):=by show _ = _; rw [← hW2]; exact blk_old (blk_newn (by simp) _) _
 have HBW : Hid (Below w.heap.size w W2):=by show Below _ _ _; rw [← hW2]; exact bw3 _ _ _ _
 go_enter Tryz.func35,Tryz.ntmps35
 go_wp2_with fail
 clear hmI hW2 p2
 go_loopw [10] (fun r wr=>∃ m : Nat,m ≤ nP∧r = .int .i64 m∧Hid (But (w.heap.size + 1 + 1) W2 wr)∧Hid (TyAt wr (w.heap.size + 1 + 1) nR (List.replicate m 1 ++ List.replicate (nR - m) 0))) (fun r _=>nP - (intOf r).toNat)
 case atStart =>
  exact ⟨0,Nat.zero_le _,rfl,But.of_below (Below.refl _ _),by simpa using HT6⟩
 case round =>
  obtain ⟨m,hm,rfl,HBT,HT⟩:=hrel
  have hTl : (List.replicate m (1 : Int) ++ List.replicate (nR - m) 0).length = nR:=by simp; omega
  have P2 : Hid (wr.heap[w.heap.size]? = some (.cells #[.string name,.int .i64 line,.int .i64 (nP : Int),.bool true,.int .i64 (nR : Int),.slice au ups.length cu,.slice ad consts.length cd,.slice ai ins.length ci,.slice an named.length cn] 53)):=(HBT.out.block _ (blk_lt HB0.out) (by omega)).trans HB0.out
  have j2 : wr.cell? ⟨w.heap.size,2,none⟩ = some (.int .i64 (nP : Int)):=by rw [blk_cell P2.out]; rfl
  have j3 : wr.cell? ⟨w.heap.size,3,none⟩ = some (.bool true):=by rw [blk_cell P2.out]; rfl
  by_cases k1 : m < nP
  ·have hmR : m < nR:=by omega
   have hcell:=HT.out.cell (i:=m) (by omega)
   have hfz:=HT.out.froz m
   have hlt:=HT.out.lt
   have HT2 : Hid (TyAt (wr.setCell ⟨w.heap.size + 1 + 1,m,none⟩ (.int .i64 1)) (w.heap.size + 1 + 1) nR (List.replicate (m + 1) 1 ++ List.replicate (nR - (m + 1)) 0)):=by show TyAt _ _ _ _; rw [← ones_set m nR hmR]; exact HT.out.set m 1
   have HB6 : Hid (But (w.heap.size + 1 + 1) W2 (wr.setCell ⟨w.heap.size + 1 + 1,m,none⟩ (.int .i64 1))):=HBT.out.set m _
   clear HT HBT
   go_wp2_with fail
   go_roundw
   case rel=>exact ⟨m + 1,by omega,by go_num,HB6,HT2⟩
   case measure=>simp [intOf]; omega
  ·have hml : m = nP:=by omega
   subst hml
   have hmR : m < nR:=by omega
   have hcell:=HT.out.cell (i:=m) (by omega)
   have hfz:=HT.out.froz m
   have hlt:=HT.out.lt
   have HT2 : Hid (TyAt (wr.setCell ⟨w.heap.size + 1 + 1,m,none⟩ (.int .i64 3)) (w.heap.size + 1 + 1) nR (startT m nR true)):=HT.out.set m 3
   have HB6 : Hid (But (w.heap.size + 1 + 1) W2 (wr.setCell ⟨w.heap.size + 1 + 1,m,none⟩ (.int .i64 3))):=HBT.out.set m _
   clear HT HBT
   obtain ⟨w5,hw5⟩ : ∃ w5,wr.setCell ⟨w.heap.size + 1 + 1,m,none⟩ (.int .i64 3) = w5:=⟨_,rfl⟩
   rw [hw5] at HT2 HB6
   have HS5 : Hid (w5.heap[w.heap.size + 1]? = some (.cells #[.bool false,.slice none 0 0,.slice none 0 0] 118)):=(HB6.out.block _ (blk_lt HSL.out) (by omega)).trans HSL.out
   have b0 : w5.cell? ⟨w.heap.size + 1,0,none⟩ = some (.bool false):=by rw [blk_cell HS5.out]; rfl
   have b1 : w5.cell? ⟨w.heap.size + 1,1,none⟩ = some (.slice none 0 0):=by rw [blk_cell HS5.out]; rfl
   have b2 : w5.cell? ⟨w.heap.size + 1,2,none⟩ = some (.slice none 0 0):=by rw [blk_cell HS5.out]; rfl
   have fz:=blk_frozen HS5.out
   have h9:=HT2.out.own (B:=w.heap.size) (by omega) (by omega)
   rw [startT_len _ _ _ (by omega)] at h9
   have HO : Hid (OI w5 w.heap.size (.slice (some ⟨w.heap.size + 1 + 1,0,none⟩) nR nR) (startT m nR true)):=h9
   have HB9 : Hid (Below w.heap.size w w5):=But.below HBW.out HB6.out (by omega) HBW.out.size
   clear h9 HT2 HB6 HS5 P2
   go_wp2_with fail
   refine bodyPost_ret (v:=.agg #[.bool false,.slice (some ⟨w.heap.size + 1 + 1,0,none⟩) nR nR,.slice none 0 0]) (by simp [results,Tryz.results35,go_sem,b0,b1,b2]) rfl ⟨⟨_,rfl,?_⟩,?_⟩
   ·have q : (Value.slice (some ⟨w.heap.size + 1 + 1,0,none⟩) nR nR).ownBlock ≠ some (w.heap.size + 1):=fun e=>by
     have e' : some (w.heap.size + 1 + 1) = some (w.heap.size + 1):=e
     injection e' with e'; omega
    exact ORow.set_own (ORow.set_own (ORow.set_own HO.out q _ _) q _ _) q _ _
   ·exact ButL.nil ((((ButL.of_below HB9.out).setn (by omega) _ _).setn (by omega) _ _).setn (by omega) _ _)
theorem start_any (f : FC) (nR nP : Nat) (w : World) (h1 : f.d.regs = nR) (h3 : f.d.params = nP) (hR1 : nR ≤ 250) (hP : nP + (if f.d.rest = true then 1 else 0) ≤ nR) :
  Calls Tryz.prog 35 #[PV f] w fun e w'=>(∃ tv',e = .returned (.agg #[.bool false,tv',.slice none 0 0])∧OI w' w.heap.size tv' (startT nP nR f.d.rest))∧Below w.heap.size w w':=by
 cases hr : f.d.rest with
 | false=>exact start_false f nR nP w h1 h3 hr hR1 (by simpa [hr] using hP)
 | true=>exact start_true f nR nP w h1 h3 hr hR1 (by simpa [hr] using hP)
end Go.Proofs.YtjglgbepobmjhaaGreatDoor
