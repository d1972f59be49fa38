import Derived.Test.YtfkeklndcjkgcaaGreatDoorXsE
/-
  OWN WORK. A code while it is marked: what its lists hold.
-/
namespace Go.Proofs.YtfkeklndcjkgcaaGreatDoor
open Go.RowKit
attribute [local go_sem] run_store_float
set_option linter.unusedVariables false
set_option linter.unusedSimpArgs false

/-- A list in a block of its own, or none. -/
def LC {α : Type} (w : World) (T : TypeId) (k : Nat) (cells : α → List Value) (a : Option Addr) (len cap : Nat) (xs : List α) : Prop :=
  xs.length = len ∧ ((a = none ∧ len = 0) ∨ ∃ g, a = some ⟨g, 0, none⟩ ∧ RowC w g cap T k cells xs)
theorem LC.of {α : Type} {w : World} {B : Nat} {T : TypeId} {k : Nat} {cells : α → List Value} {a : Option Addr} {n cap : Nat} {xs : List α} (h : ORow w B T k cells (.slice a n cap) xs) (hn : xs.length = n) (hk : ∀ y, (cells y).length = k) : LC w T k cells a n cap xs := by
  refine ⟨hn, ?_⟩
  rcases h.2 with ⟨e, h0⟩ | ⟨g, cap', cur, e, _⟩
  · cases e
    exact .inl ⟨rfl, by omega⟩
  · cases e
    exact .inr ⟨g, rfl, h.rowC hk⟩
theorem LC.later {α : Type} {w w' : World} {T : TypeId} {k : Nat} {cells : α → List Value} {a : Option Addr} {len cap : Nat} {xs : List α} (h : LC w T k cells a len cap xs) (hb : Below w.heap.size w w') : LC w' T k cells a len cap xs :=
  ⟨h.1, h.2.imp id fun ⟨g, e, r⟩ => ⟨g, e, r.later hb⟩⟩
theorem LC.keep {α : Type} {w w' : World} {T : TypeId} {k : Nat} {cells : α → List Value} {a : Option Addr} {len cap : Nat} {xs : List α} (h : LC w T k cells a len cap xs) (hb : ∀ g : Nat, a = some ⟨g, 0, none⟩ → w'.heap[g]? = w.heap[g]?) : LC w' T k cells a len cap xs :=
  ⟨h.1, h.2.imp id fun ⟨g, e, r⟩ => ⟨g, e, r.keep (hb g e)⟩⟩
theorem LC.at {α : Type} {w : World} {T : TypeId} {k : Nat} {cells : α → List Value} {a : Option Addr} {len cap : Nat} {xs : List α} (h : LC w T k cells a len cap xs) : SlA w k cells a xs := by
  rcases h.2 with ⟨e, h0⟩ | ⟨g, e, r⟩
  · have : xs = [] := List.length_eq_zero_iff.1 (by rw [h.1]; exact h0)
    rw [this]; exact SlA.nil _ _ _ _
  · rw [e]; exact r.at
theorem LC.typ {α : Type} {w : World} {T : TypeId} {k : Nat} {cells : α → List Value} {a : Option Addr} {len cap : Nat} {xs : List α} (h : LC w T k cells a len cap xs) {g : Nat} (ha : a = some ⟨g, 0, none⟩) : ∃ ar, w.heap[g]? = some (.cells ar T) := by
  rcases h.2 with ⟨e, _⟩ | ⟨g', e, ar, h1, _⟩
  · rw [e] at ha; cases ha
  · rw [e] at ha; cases ha
    exact ⟨ar, h1⟩
/-- Lists of different kinds lie in different blocks. -/
theorem LC.apart {α β : Type} {w w' : World} {T T' : TypeId} {k k' : Nat} {cells : α → List Value} {cells' : β → List Value} {a a' : Option Addr} {len cap len' cap' : Nat} {xs : List α} {ys : List β} (h : LC w T k cells a len cap xs) (h' : LC w T' k' cells' a' len' cap' ys) (hT : T ≠ T') (hb : Bo a' w w') : LC w' T k cells a len cap xs :=
  h.keep fun g ha => by
    obtain ⟨ar, h1⟩ := h.typ ha
    refine hb.block g (blk_lt h1) fun he => ?_
    obtain ⟨ar', h2⟩ := h'.typ he
    rw [h1] at h2
    cases h2
    exact hT rfl

set_option maxRecDepth 20000 in
set_option maxHeartbeats 2000000 in
theorem mkU_nil (cap k0 : Nat) (w : World) :
    Calls Tryz.prog 70 #[.slice none 0 cap, .int .i64 (k0 : Int)] w fun e w' => e = .returned (.int .i64 (k0 : Int)) ∧ w' = w := by
  go_enter Tryz.func70, Tryz.ntmps70
  go_wp2_with fail
  refine wp_loop_rounds 1 ?_
  rw [rounds_succ]
  go_wp2_with fail
  go_ret
  exact ⟨rfl, rfl⟩
theorem mkU_lc (a : Option Addr) (len cap k0 : Nat) (z : Int) (hz : z = (k0 : Int)) (xs : List UD) (w : World) (h : LC w 110 2 UD.cells a len cap xs) (hlen : len ≤ 1048576) (h0 : 0 < k0) (hk : k0 ≤ 30000000000000) :
    Calls Tryz.prog 70 #[.slice a len cap, .int .i64 z] w fun e w' => e = .returned (.int .i64 ((k0 + 2 * len : Nat) : Int)) ∧ Bo a w w' ∧ LC w' 110 2 UD.cells a len cap (mkL mkU 2 k0 len) := by
  rw [hz]
  rcases h.2 with ⟨rfl, rfl⟩ | ⟨g, rfl, ar, h1, h2, h3, h4⟩
  · refine (mkU_nil cap k0 w).mono ?_
    rintro e w' ⟨rfl, rfl⟩
    exact ⟨rfl, Bo.refl _ _, rfl, .inl ⟨rfl, rfl⟩⟩
  · refine (mkU_row g len cap cap k0 110 w ⟨ar, h1, h2⟩ (by rw [← h.1]; exact h3) hlen h0 hk).mono ?_
    rintro e w' ⟨rfl, hb, hr⟩
    exact ⟨rfl, hb, mkL_len _ _ _ _, .inr ⟨g, rfl, hr⟩⟩
theorem hdU_int (a : Option Addr) (len cap k0 : Nat) (z : Int) (hz : z = (k0 : Int)) (w : World) (hp : SlA w 2 UD.cells a (mkL mkU 2 k0 len)) (hlen : len ≤ 1048576) (h0 : 0 < k0) (hk : k0 ≤ 30000000000000) :
    Calls Tryz.prog 78 #[.slice a len cap, .int .i64 z] w fun e w' => e = .returned (.int .i64 ((k0 + 2 * len : Nat) : Int)) ∧ Below w.heap.size w w' := by
  rw [hz]; exact hdU_any a len cap k0 w hp hlen h0 hk

set_option maxRecDepth 20000 in
set_option maxHeartbeats 2000000 in
theorem mkV_nil (cap k0 : Nat) (w : World) :
    Calls Tryz.prog 71 #[.slice none 0 cap, .int .i64 (k0 : Int)] w fun e w' => e = .returned (.int .i64 (k0 : Int)) ∧ w' = w := by
  go_enter Tryz.func71, Tryz.ntmps71
  go_wp2_with fail
  refine wp_loop_rounds 1 ?_
  rw [rounds_succ]
  go_wp2_with fail
  go_ret
  exact ⟨rfl, rfl⟩
theorem mkV_lc (a : Option Addr) (len cap k0 : Nat) (z : Int) (hz : z = (k0 : Int)) (xs : List VD) (w : World) (h : LC w 113 5 VD.cells a len cap xs) (hlen : len ≤ 1048576) (h0 : 0 < k0) (hk : k0 ≤ 30000000000000) :
    Calls Tryz.prog 71 #[.slice a len cap, .int .i64 z] w fun e w' => e = .returned (.int .i64 ((k0 + 5 * len : Nat) : Int)) ∧ Bo a w w' ∧ LC w' 113 5 VD.cells a len cap (mkL mkV 5 k0 len) := by
  rw [hz]
  rcases h.2 with ⟨rfl, rfl⟩ | ⟨g, rfl, ar, h1, h2, h3, h4⟩
  · refine (mkV_nil cap k0 w).mono ?_
    rintro e w' ⟨rfl, rfl⟩
    exact ⟨rfl, Bo.refl _ _, rfl, .inl ⟨rfl, rfl⟩⟩
  · refine (mkV_row g len cap cap k0 113 w ⟨ar, h1, h2⟩ (by rw [← h.1]; exact h3) hlen h0 hk).mono ?_
    rintro e w' ⟨rfl, hb, hr⟩
    exact ⟨rfl, hb, mkL_len _ _ _ _, .inr ⟨g, rfl, hr⟩⟩
theorem hdV_int (a : Option Addr) (len cap k0 : Nat) (z : Int) (hz : z = (k0 : Int)) (w : World) (hp : SlA w 5 VD.cells a (mkL mkV 5 k0 len)) (hlen : len ≤ 1048576) (h0 : 0 < k0) (hk : k0 ≤ 30000000000000) :
    Calls Tryz.prog 79 #[.slice a len cap, .int .i64 z] w fun e w' => e = .returned (.int .i64 ((k0 + 5 * len : Nat) : Int)) ∧ Below w.heap.size w w' := by
  rw [hz]; exact hdV_any a len cap k0 w hp hlen h0 hk

set_option maxRecDepth 20000 in
set_option maxHeartbeats 2000000 in
theorem mkI_nil (cap k0 : Nat) (w : World) :
    Calls Tryz.prog 72 #[.slice none 0 cap, .int .i64 (k0 : Int)] w fun e w' => e = .returned (.int .i64 (k0 : Int)) ∧ w' = w := by
  go_enter Tryz.func72, Tryz.ntmps72
  go_wp2_with fail
  refine wp_loop_rounds 1 ?_
  rw [rounds_succ]
  go_wp2_with fail
  go_ret
  exact ⟨rfl, rfl⟩
theorem mkI_lc (a : Option Addr) (len cap k0 : Nat) (z : Int) (hz : z = (k0 : Int)) (xs : List ID) (w : World) (h : LC w 52 5 ID.cells a len cap xs) (hlen : len ≤ 1048576) (h0 : 0 < k0) (hk : k0 ≤ 30000000000000) :
    Calls Tryz.prog 72 #[.slice a len cap, .int .i64 z] w fun e w' => e = .returned (.int .i64 ((k0 + 5 * len : Nat) : Int)) ∧ Bo a w w' ∧ LC w' 52 5 ID.cells a len cap (mkL mkI 5 k0 len) := by
  rw [hz]
  rcases h.2 with ⟨rfl, rfl⟩ | ⟨g, rfl, ar, h1, h2, h3, h4⟩
  · refine (mkI_nil cap k0 w).mono ?_
    rintro e w' ⟨rfl, rfl⟩
    exact ⟨rfl, Bo.refl _ _, rfl, .inl ⟨rfl, rfl⟩⟩
  · refine (mkI_row g len cap cap k0 52 w ⟨ar, h1, h2⟩ (by rw [← h.1]; exact h3) hlen h0 hk).mono ?_
    rintro e w' ⟨rfl, hb, hr⟩
    exact ⟨rfl, hb, mkL_len _ _ _ _, .inr ⟨g, rfl, hr⟩⟩
theorem hdI_int (a : Option Addr) (len cap k0 : Nat) (z : Int) (hz : z = (k0 : Int)) (w : World) (hp : SlA w 5 ID.cells a (mkL mkI 5 k0 len)) (hlen : len ≤ 1048576) (h0 : 0 < k0) (hk : k0 ≤ 30000000000000) :
    Calls Tryz.prog 80 #[.slice a len cap, .int .i64 z] w fun e w' => e = .returned (.int .i64 ((k0 + 5 * len : Nat) : Int)) ∧ Below w.heap.size w w' := by
  rw [hz]; exact hdI_any a len cap k0 w hp hlen h0 hk

set_option maxRecDepth 20000 in
set_option maxHeartbeats 2000000 in
theorem mkN_nil (cap k0 : Nat) (w : World) :
    Calls Tryz.prog 73 #[.slice none 0 cap, .int .i64 (k0 : Int)] w fun e w' => e = .returned (.int .i64 (k0 : Int)) ∧ w' = w := by
  go_enter Tryz.func73, Tryz.ntmps73
  go_wp2_with fail
  refine wp_loop_rounds 1 ?_
  rw [rounds_succ]
  go_wp2_with fail
  go_ret
  exact ⟨rfl, rfl⟩
theorem mkN_lc (a : Option Addr) (len cap k0 : Nat) (z : Int) (hz : z = (k0 : Int)) (xs : List ND) (w : World) (h : LC w 116 4 ND.cells a len cap xs) (hlen : len ≤ 1048576) (h0 : 0 < k0) (hk : k0 ≤ 30000000000000) :
    Calls Tryz.prog 73 #[.slice a len cap, .int .i64 z] w fun e w' => e = .returned (.int .i64 ((k0 + 4 * len : Nat) : Int)) ∧ Bo a w w' ∧ LC w' 116 4 ND.cells a len cap (mkL mkN 4 k0 len) := by
  rw [hz]
  rcases h.2 with ⟨rfl, rfl⟩ | ⟨g, rfl, ar, h1, h2, h3, h4⟩
  · refine (mkN_nil cap k0 w).mono ?_
    rintro e w' ⟨rfl, rfl⟩
    exact ⟨rfl, Bo.refl _ _, rfl, .inl ⟨rfl, rfl⟩⟩
  · refine (mkN_row g len cap cap k0 116 w ⟨ar, h1, h2⟩ (by rw [← h.1]; exact h3) hlen h0 hk).mono ?_
    rintro e w' ⟨rfl, hb, hr⟩
    exact ⟨rfl, hb, mkL_len _ _ _ _, .inr ⟨g, rfl, hr⟩⟩
theorem hdN_int (a : Option Addr) (len cap k0 : Nat) (z : Int) (hz : z = (k0 : Int)) (w : World) (hp : SlA w 4 ND.cells a (mkL mkN 4 k0 len)) (hlen : len ≤ 1048576) (h0 : 0 < k0) (hk : k0 ≤ 30000000000000) :
    Calls Tryz.prog 81 #[.slice a len cap, .int .i64 z] w fun e w' => e = .returned (.int .i64 ((k0 + 4 * len : Nat) : Int)) ∧ Below w.heap.size w w' := by
  rw [hz]; exact hdN_any a len cap k0 w hp hlen h0 hk

/-- How many marks a proto takes. -/
def cnt (d : FD) : Nat := 5 + 2 * d.ups.length + 5 * d.consts.length + 5 * d.ins.length + 4 * d.named.length
def KK (ys : List FC) (m : Nat) : Nat := 1 + ((ys.take m).map fun y => cnt y.d).sum
theorem KK_zero (ys : List FC) : KK ys 0 = 1 := rfl
theorem KK_succ {ys : List FC} {m : Nat} {y : FC} (h : ys[m]? = some y) : KK ys (m + 1) = KK ys m + cnt y.d := by
  unfold KK
  rw [List.take_add_one, h]
  simp
  omega
theorem KK_le {ys : List FC} (hok : ∀ y ∈ ys, y.d.ok) : ∀ m, m ≤ ys.length → KK ys m ≤ 1 + m * 16777221
  | 0, _ => by rw [KK_zero]; omega
  | m + 1, h => by
    obtain ⟨y, hy⟩ : ∃ y, ys[m]? = some y := ⟨ys[m]'(by omega), by simp⟩
    have ih := KK_le hok m (by omega)
    have ok := hok y (List.mem_of_getElem? hy)
    obtain ⟨b1, b2, b3, b4⟩ := (⟨ok.lu, ok.lc, ok.li, ok.ln⟩ : _ ∧ _ ∧ _ ∧ _)
    rw [KK_succ hy]
    unfold cnt
    omega
theorem KK_pos (ys : List FC) (m : Nat) : 0 < KK ys m := by unfold KK; omega
/-- Four lists of a proto. -/
structure L4 (w : World) (z : FC) (d : FD) : Prop where
  u : LC w 110 2 UD.cells z.au z.d.ups.length z.cu d.ups
  c : LC w 113 5 VD.cells z.ac z.d.consts.length z.cc d.consts
  i : LC w 52 5 ID.cells z.ai z.d.ins.length z.ci d.ins
  n : LC w 116 4 ND.cells z.an z.d.named.length z.cn d.named
theorem L4.later {w w' : World} {z : FC} {d : FD} (h : L4 w z d) (hb : Below w.heap.size w w') : L4 w' z d := ⟨h.u.later hb, h.c.later hb, h.i.later hb, h.n.later hb⟩
/-- A proto's marks. -/
def mkD (d : FD) (K : Nat) : FD :=
  ⟨mtx K, (K : Int) + 1, (K : Int) + 1 + 1, decide (((K : Int) + 1 + 1 + 1) % 3 = 0), (K : Int) + 1 + 1 + 1 + 1, mkL mkU 2 (K + 5) d.ups.length, mkL mkV 5 (K + 5 + 2 * d.ups.length) d.consts.length, mkL mkI 5 (K + 5 + 2 * d.ups.length + 5 * d.consts.length) d.ins.length, mkL mkN 4 (K + 5 + 2 * d.ups.length + 5 * d.consts.length + 5 * d.ins.length) d.named.length⟩
/-- What the first m protos hold once they are marked, and the others. -/
def dat (ys : List FC) (m i : Nat) (y : FC) : FD := if i < m then mkD y.d (KK ys i) else y.d
/-- The cells of a proto with other data. -/
def hcells (y : FC) (d : FD) : List Value := [.string d.name, .int .i64 d.line, .int .i64 d.params, .bool d.rest, .int .i64 d.regs, .slice y.au y.d.ups.length y.cu, .slice y.ac y.d.consts.length y.cc, .slice y.ai y.d.ins.length y.ci, .slice y.an y.d.named.length y.cn]
/-- Blocks of other kinds than those of a code are as they were. -/
def Ty5 (w0 w : World) : Prop := ∀ (j : Nat) (arr : Array Value) (T : TypeId) (fz : Nat × Nat), w0.heap[j]? = some (.cells arr T fz) → T ≠ 50 → T ≠ 110 → T ≠ 113 → T ≠ 52 → T ≠ 116 → w.heap[j]? = some (.cells arr T fz)
theorem Ty5.refl (w : World) : Ty5 w w := fun j arr T fz h _ _ _ _ _ => h
theorem Ty5.later {w0 w w' : World} (h : Ty5 w0 w) (hb : Below w.heap.size w w') : Ty5 w0 w' := fun j arr T fz h0 h1 h2 h3 h4 h5 => blk_later hb (h j arr T fz h0 h1 h2 h3 h4 h5)
theorem Ty5.put {w0 w : World} {gP : Nat} {ar : Array Value} (h : Ty5 w0 w) (hg : w.heap[gP]? = some (.cells ar 50)) (q : Nat) (v : Value) : Ty5 w0 (w.setCell ⟨gP, q, none⟩ v) := fun j arr T fz h0 h1 h2 h3 h4 h5 => by
  have hj := h j arr T fz h0 h1 h2 h3 h4 h5
  refine blk_other hj (fun e => ?_) q v
  rw [← e, hg] at hj
  cases hj
  exact h1 rfl
/-- A code under way: m protos are marked. -/
structure MS (w0 w : World) (lo gP cap : Nat) (ys : List FC) (m : Nat) : Prop where
  row : ∃ ar, w.heap[gP]? = some (.cells ar 50) ∧ ar.size = cap * 9 ∧ ys.length ≤ cap ∧ ∀ (i : Nat) (y : FC), ys[i]? = some y → ∀ (j : Nat) (v : Value), (hcells y (dat ys m i y))[j]? = some v → ar[i * 9 + j]? = some v
  l4 : ∀ (i : Nat) (y : FC), ys[i]? = some y → L4 w y (dat ys m i y)
  bel : Below lo w0 w
  ty : Ty5 w0 w

/-- Behind marking one list: the other lists of a proto, where it is another list. -/
theorem L4.oth_u {w w' : World} {y z : FC} {d d' : FD} (h : L4 w y d) (h' : L4 w z d') (hb : Bo z.au w w') (hd : ∀ g : Nat, y.au = some ⟨g, 0, none⟩ → z.au ≠ some ⟨g, 0, none⟩) : L4 w' y d :=
  ⟨h.u.keep fun g ha => by
    obtain ⟨ar, h1⟩ := h.u.typ ha
    exact hb.block g (blk_lt h1) (hd g ha), h.c.apart h'.u (by decide) hb, h.i.apart h'.u (by decide) hb, h.n.apart h'.u (by decide) hb⟩
/-- .. of the proto itself. -/
theorem L4.own_u {w w' : World} {z : FC} {d : FD} (h : L4 w z d) (hb : Bo z.au w w') (xs : List UD) (hx : LC w' 110 2 UD.cells z.au z.d.ups.length z.cu xs) : L4 w' z { d with ups := xs } :=
  ⟨hx, h.c.apart h.u (by decide) hb, h.i.apart h.u (by decide) hb, h.n.apart h.u (by decide) hb⟩

/-- Behind marking one list: the other lists of a proto, where it is another list. -/
theorem L4.oth_c {w w' : World} {y z : FC} {d d' : FD} (h : L4 w y d) (h' : L4 w z d') (hb : Bo z.ac w w') (hd : ∀ g : Nat, y.ac = some ⟨g, 0, none⟩ → z.ac ≠ some ⟨g, 0, none⟩) : L4 w' y d :=
  ⟨h.u.apart h'.c (by decide) hb, h.c.keep fun g ha => by
    obtain ⟨ar, h1⟩ := h.c.typ ha
    exact hb.block g (blk_lt h1) (hd g ha), h.i.apart h'.c (by decide) hb, h.n.apart h'.c (by decide) hb⟩
/-- .. of the proto itself. -/
theorem L4.own_c {w w' : World} {z : FC} {d : FD} (h : L4 w z d) (hb : Bo z.ac w w') (xs : List VD) (hx : LC w' 113 5 VD.cells z.ac z.d.consts.length z.cc xs) : L4 w' z { d with consts := xs } :=
  ⟨h.u.apart h.c (by decide) hb, hx, h.i.apart h.c (by decide) hb, h.n.apart h.c (by decide) hb⟩

/-- Behind marking one list: the other lists of a proto, where it is another list. -/
theorem L4.oth_i {w w' : World} {y z : FC} {d d' : FD} (h : L4 w y d) (h' : L4 w z d') (hb : Bo z.ai w w') (hd : ∀ g : Nat, y.ai = some ⟨g, 0, none⟩ → z.ai ≠ some ⟨g, 0, none⟩) : L4 w' y d :=
  ⟨h.u.apart h'.i (by decide) hb, h.c.apart h'.i (by decide) hb, h.i.keep fun g ha => by
    obtain ⟨ar, h1⟩ := h.i.typ ha
    exact hb.block g (blk_lt h1) (hd g ha), h.n.apart h'.i (by decide) hb⟩
/-- .. of the proto itself. -/
theorem L4.own_i {w w' : World} {z : FC} {d : FD} (h : L4 w z d) (hb : Bo z.ai w w') (xs : List ID) (hx : LC w' 52 5 ID.cells z.ai z.d.ins.length z.ci xs) : L4 w' z { d with ins := xs } :=
  ⟨h.u.apart h.i (by decide) hb, h.c.apart h.i (by decide) hb, hx, h.n.apart h.i (by decide) hb⟩

/-- Behind marking one list: the other lists of a proto, where it is another list. -/
theorem L4.oth_n {w w' : World} {y z : FC} {d d' : FD} (h : L4 w y d) (h' : L4 w z d') (hb : Bo z.an w w') (hd : ∀ g : Nat, y.an = some ⟨g, 0, none⟩ → z.an ≠ some ⟨g, 0, none⟩) : L4 w' y d :=
  ⟨h.u.apart h'.n (by decide) hb, h.c.apart h'.n (by decide) hb, h.i.apart h'.n (by decide) hb, h.n.keep fun g ha => by
    obtain ⟨ar, h1⟩ := h.n.typ ha
    exact hb.block g (blk_lt h1) (hd g ha)⟩
/-- .. of the proto itself. -/
theorem L4.own_n {w w' : World} {z : FC} {d : FD} (h : L4 w z d) (hb : Bo z.an w w') (xs : List ND) (hx : LC w' 116 4 ND.cells z.an z.d.named.length z.cn xs) : L4 w' z { d with named := xs } :=
  ⟨h.u.apart h.n (by decide) hb, h.c.apart h.n (by decide) hb, h.i.apart h.n (by decide) hb, hx⟩
end Go.Proofs.YtfkeklndcjkgcaaGreatDoor

/-
  OWN WORK. Protos and codes marked: what they hold then.
-/
namespace Go.Proofs.YtfkeklndcjkgcaaGreatDoor
open Go.RowKit
attribute [local go_sem] run_store_float
set_option linter.unusedVariables false
set_option linter.unusedSimpArgs false

/-- No two protos share a list's block, none lies below a bound. -/
structure SC0 (lo : Nat) (ys : List FC) : Prop where
  dis : Dis ys
  u : ∀ y ∈ ys, ∀ g : Nat, y.au = some ⟨g, 0, none⟩ → lo ≤ g
  c : ∀ y ∈ ys, ∀ g : Nat, y.ac = some ⟨g, 0, none⟩ → lo ≤ g
  i : ∀ y ∈ ys, ∀ g : Nat, y.ai = some ⟨g, 0, none⟩ → lo ≤ g
  n : ∀ y ∈ ys, ∀ g : Nat, y.an = some ⟨g, 0, none⟩ → lo ≤ g
theorem Bo.bel {a : Option Addr} {w0 w w' : World} {lo : Nat} (h : Bo a w w') (h0 : Below lo w0 w) (hl : lo ≤ w0.heap.size) (ha : ∀ g : Nat, a = some ⟨g, 0, none⟩ → lo ≤ g) : Below lo w0 w' :=
  h0.trans ⟨h.os, h.tape, h.output, h.size, fun j hj => h.block j (by have := h0.size; omega) (fun he => by have := ha j he; omega)⟩
def dtm (ys : List FC) (m : Nat) (dm : FD) (i : Nat) (y : FC) : FD := if i = m then dm else dat ys m i y
theorem dtm_self (ys : List FC) (m : Nat) (dm : FD) (y : FC) : dtm ys m dm m y = dm := if_pos rfl
theorem dtm_other (ys : List FC) (m : Nat) (dm dm' : FD) {i : Nat} (y : FC) (h : i ≠ m) : dtm ys m dm i y = dtm ys m dm' i y := by unfold dtm; rw [if_neg h, if_neg h]
/-- A code under way: m protos are marked, the next one in part. -/
structure MSd (w0 w : World) (lo gP cap : Nat) (ys : List FC) (m : Nat) (dm : FD) : Prop where
  row : ∃ ar, w.heap[gP]? = some (.cells ar 50) ∧ ar.size = cap * 9 ∧ ys.length ≤ cap ∧ ∀ (i : Nat) (y : FC), ys[i]? = some y → ∀ (j : Nat) (v : Value), (hcells y (dtm ys m dm i y))[j]? = some v → ar[i * 9 + j]? = some v
  l4 : ∀ (i : Nat) (y : FC), ys[i]? = some y → L4 w y (dtm ys m dm i y)
  bel : Below lo w0 w
  ty : Ty5 w0 w
theorem MS.into {w0 w : World} {lo gP cap : Nat} {ys : List FC} {m : Nat} {y : FC} (h : MS w0 w lo gP cap ys m) (hy : ys[m]? = some y) : MSd w0 w lo gP cap ys m y.d := by
  have key : ∀ (i : Nat) (x : FC), ys[i]? = some x → dtm ys m y.d i x = dat ys m i x := fun i x hx => by
    unfold dtm
    by_cases hi : i = m
    · subst hi
      rw [hy] at hx
      cases hx
      rw [if_pos rfl]
      unfold dat
      rw [if_neg (Nat.lt_irrefl _)]
    · rw [if_neg hi]
  obtain ⟨ar, h1, h2, h3, h4⟩ := h.row
  exact ⟨⟨ar, h1, h2, h3, fun i x hx => by rw [key i x hx]; exact h4 i x hx⟩, fun i x hx => by rw [key i x hx]; exact h.l4 i x hx, h.bel, h.ty⟩
theorem MSd.done {w0 w : World} {lo gP cap : Nat} {ys : List FC} {m : Nat} {y : FC} (h : MSd w0 w lo gP cap ys m (mkD y.d (KK ys m))) (hy : ys[m]? = some y) : MS w0 w lo gP cap ys (m + 1) := by
  have key : ∀ (i : Nat) (x : FC), ys[i]? = some x → dat ys (m + 1) i x = dtm ys m (mkD y.d (KK ys m)) i x := fun i x hx => by
    unfold dtm dat
    by_cases hi : i = m
    · subst hi
      rw [hy] at hx
      cases hx
      rw [if_pos rfl, if_pos (by omega)]
    · rw [if_neg hi]
      by_cases hl : i < m
      · rw [if_pos hl, if_pos (by omega)]
      · rw [if_neg hl, if_neg (by omega)]
  obtain ⟨ar, h1, h2, h3, h4⟩ := h.row
  exact ⟨⟨ar, h1, h2, h3, fun i x hx => by rw [key i x hx]; exact h4 i x hx⟩, fun i x hx => by rw [key i x hx]; exact h.l4 i x hx, h.bel, h.ty⟩
theorem MSd.later {w0 w w' : World} {lo gP cap : Nat} {ys : List FC} {m : Nat} {dm : FD} (h : MSd w0 w lo gP cap ys m dm) (hl : lo ≤ w0.heap.size) (hb : Below w.heap.size w w') : MSd w0 w' lo gP cap ys m dm := by
  obtain ⟨ar, h1, h2, h3, h4⟩ := h.row
  exact ⟨⟨ar, blk_later hb h1, h2, h3, h4⟩, fun i x hx => (h.l4 i x hx).later hb, h.bel.trans (hb.mono (by have := h.bel.size; omega)), h.ty.later hb⟩
theorem LC.put {α : Type} {w : World} {T T' : TypeId} {k : Nat} {cells : α → List Value} {a : Option Addr} {len cap gP : Nat} {xs : List α} {ar : Array Value} (h : LC w T k cells a len cap xs) (hg : w.heap[gP]? = some (.cells ar T')) (hT : T ≠ T') (j : Nat) (v : Value) : LC (w.setCell ⟨gP, j, none⟩ v) T k cells a len cap xs :=
  h.keep fun g ha => by
    obtain ⟨ar', h1⟩ := h.typ ha
    refine Below.heap_setCell _ _ _ _ ?_
    show g ≠ gP
    intro e
    rw [e, hg] at h1
    cases h1
    exact hT rfl
theorem L4.put {w : World} {z : FC} {d : FD} {gP : Nat} {ar : Array Value} (h : L4 w z d) (hg : w.heap[gP]? = some (.cells ar 50)) (j : Nat) (v : Value) : L4 (w.setCell ⟨gP, j, none⟩ v) z d := ⟨h.u.put hg (by decide) j v, h.c.put hg (by decide) j v, h.i.put hg (by decide) j v, h.n.put hg (by decide) j v⟩
/-- A field of the proto at hand is set. -/
theorem MSd.fld {w0 w : World} {lo gP cap : Nat} {ys : List FC} {m : Nat} {y : FC} {dm : FD} (h : MSd w0 w lo gP cap ys m dm) (hy : ys[m]? = some y) (hlo : lo ≤ gP) (q : Nat) (hq : q < 5) (v : Value) (dm' : FD) (hu : dm'.ups = dm.ups) (hc : dm'.consts = dm.consts) (hi : dm'.ins = dm.ins) (hn : dm'.named = dm.named) (hv : ∀ j, (hcells y dm')[j]? = if j = q then some v else (hcells y dm)[j]?) : MSd w0 (w.setCell ⟨gP, m * 9 + q, none⟩ v) lo gP cap ys m dm' := by
  obtain ⟨ar, h1, h2, h3, h4⟩ := h.row
  refine ⟨⟨ar.setIfInBounds (m * 9 + q) v, blk_set h1 _ _, by rw [Array.size_setIfInBounds]; exact h2, h3, fun i x hx j u hu' => ?_⟩, fun i x hx => ?_, h.bel.setCell (p := ⟨gP, m * 9 + q, none⟩) (by exact hlo) _, h.ty.put h1 _ _⟩
  · have hm9 : m * 9 + q < ar.size := by
      have := (List.getElem?_eq_some_iff.1 hy).1
      rw [h2]; omega
    rw [Array.getElem?_setIfInBounds]
    by_cases him : i = m
    · subst him
      rw [hy] at hx
      cases hx
      rw [dtm_self, hv j] at hu'
      by_cases hj : j = q
      · rw [if_pos hj] at hu'
        cases hu'
        rw [if_pos (by omega), if_pos hm9]
      · rw [if_neg hj] at hu'
        rw [if_neg (by omega)]
        exact h4 i y hy j u (by rw [dtm_self]; exact hu')
    · have hj9 : j < 9 := by have := (List.getElem?_eq_some_iff.1 hu').1; simpa [hcells] using this
      rw [if_neg (by omega)]
      exact h4 i x hx j u (by rw [dtm_other ys m dm dm' x him]; exact hu')
  · by_cases him : i = m
    · subst him
      rw [hy] at hx
      cases hx
      have := (h.l4 i y hy).put h1 (i * 9 + q) v
      rw [dtm_self] at this ⊢
      exact ⟨by rw [hu]; exact this.u, by rw [hc]; exact this.c, by rw [hi]; exact this.i, by rw [hn]; exact this.n⟩
    · have := (h.l4 i x hx).put h1 (m * 9 + q) v
      rw [dtm_other ys m dm dm' x him] at this
      exact this
theorem MSd.cells {w0 w : World} {lo gP cap : Nat} {ys : List FC} {m : Nat} {y : FC} {dm : FD} (h : MSd w0 w lo gP cap ys m dm) (hy : ys[m]? = some y) (j : Nat) (v : Value) (hv : (hcells y dm)[j]? = some v) : w.cell? ⟨gP, m * 9 + j, none⟩ = some v := by
  obtain ⟨ar, h1, h2, h3, h4⟩ := h.row
  rw [blk_cell h1]
  exact h4 m y hy j v (by rw [dtm_self]; exact hv)
theorem MSd.froz {w0 w : World} {lo gP cap : Nat} {ys : List FC} {m : Nat} {dm : FD} (h : MSd w0 w lo gP cap ys m dm) (j : Nat) : w.frozen? ⟨gP, j, none⟩ = false := by
  obtain ⟨ar, h1, _⟩ := h.row
  exact blk_frozen h1 j

theorem MSd.u {w0 w w' : World} {lo gP cap : Nat} {ys : List FC} {m : Nat} {y : FC} {dm : FD} (h : MSd w0 w lo gP cap ys m dm) (hS : SC0 lo ys) (hl : lo ≤ w0.heap.size) (hy : ys[m]? = some y) (hb : Bo y.au w w') (xs : List UD) (hx : LC w' 110 2 UD.cells y.au y.d.ups.length y.cu xs) : MSd w0 w' lo gP cap ys m { dm with ups := xs } := by
  obtain ⟨ar, h1, h2, h3, h4⟩ := h.row
  have hm4 := h.l4 m y hy
  refine ⟨⟨ar, ?_, h2, h3, fun i x hx' j u hu => ?_⟩, fun i x hx' => ?_, hb.bel h.bel hl (hS.u y (List.mem_of_getElem? hy)), fun j arr T fz q0 q1 q2 q3 q4 q5 => ?_⟩
  · refine (hb.block gP (blk_lt h1) fun he => ?_).trans h1
    obtain ⟨ar', h5⟩ := hm4.u.typ he
    rw [h1] at h5
    cases h5
  · by_cases him : i = m
    · subst him
      rw [hy] at hx'
      cases hx'
      refine h4 i y hy j u ?_
      rw [dtm_self] at hu ⊢
      exact hu
    · refine h4 i x hx' j u ?_
      rw [dtm_other ys m _ { dm with ups := xs } x him]
      exact hu
  · by_cases him : i = m
    · subst him
      rw [hy] at hx'
      cases hx'
      rw [dtm_self]
      have h6 := hm4
      rw [dtm_self] at h6
      exact h6.own_u hb xs hx
    · rw [dtm_other ys m _ dm x him]
      refine (h.l4 i x hx').oth_u hm4 hb fun g hg => ?_
      rcases Nat.lt_or_gt_of_ne him with hlt | hgt
      · exact (hS.dis i m x y hlt hx' hy g).1 hg
      · exact fun e => (hS.dis m i y x hgt hy hx' g).1 e hg
  · have hj := h.ty j arr T fz q0 q1 q2 q3 q4 q5
    refine (hb.block j (blk_lt hj) fun he => ?_).trans hj
    obtain ⟨ar', h5⟩ := hm4.u.typ he
    rw [hj] at h5
    cases h5
    exact q2 rfl

theorem MSd.c {w0 w w' : World} {lo gP cap : Nat} {ys : List FC} {m : Nat} {y : FC} {dm : FD} (h : MSd w0 w lo gP cap ys m dm) (hS : SC0 lo ys) (hl : lo ≤ w0.heap.size) (hy : ys[m]? = some y) (hb : Bo y.ac w w') (xs : List VD) (hx : LC w' 113 5 VD.cells y.ac y.d.consts.length y.cc xs) : MSd w0 w' lo gP cap ys m { dm with consts := xs } := by
  obtain ⟨ar, h1, h2, h3, h4⟩ := h.row
  have hm4 := h.l4 m y hy
  refine ⟨⟨ar, ?_, h2, h3, fun i x hx' j u hu => ?_⟩, fun i x hx' => ?_, hb.bel h.bel hl (hS.c y (List.mem_of_getElem? hy)), fun j arr T fz q0 q1 q2 q3 q4 q5 => ?_⟩
  · refine (hb.block gP (blk_lt h1) fun he => ?_).trans h1
    obtain ⟨ar', h5⟩ := hm4.c.typ he
    rw [h1] at h5
    cases h5
  · by_cases him : i = m
    · subst him
      rw [hy] at hx'
      cases hx'
      refine h4 i y hy j u ?_
      rw [dtm_self] at hu ⊢
      exact hu
    · refine h4 i x hx' j u ?_
      rw [dtm_other ys m _ { dm with consts := xs } x him]
      exact hu
  · by_cases him : i = m
    · subst him
      rw [hy] at hx'
      cases hx'
      rw [dtm_self]
      have h6 := hm4
      rw [dtm_self] at h6
      exact h6.own_c hb xs hx
    · rw [dtm_other ys m _ dm x him]
      refine (h.l4 i x hx').oth_c hm4 hb fun g hg => ?_
      rcases Nat.lt_or_gt_of_ne him with hlt | hgt
      · exact (hS.dis i m x y hlt hx' hy g).2.1 hg
      · exact fun e => (hS.dis m i y x hgt hy hx' g).2.1 e hg
  · have hj := h.ty j arr T fz q0 q1 q2 q3 q4 q5
    refine (hb.block j (blk_lt hj) fun he => ?_).trans hj
    obtain ⟨ar', h5⟩ := hm4.c.typ he
    rw [hj] at h5
    cases h5
    exact q3 rfl

theorem MSd.i {w0 w w' : World} {lo gP cap : Nat} {ys : List FC} {m : Nat} {y : FC} {dm : FD} (h : MSd w0 w lo gP cap ys m dm) (hS : SC0 lo ys) (hl : lo ≤ w0.heap.size) (hy : ys[m]? = some y) (hb : Bo y.ai w w') (xs : List ID) (hx : LC w' 52 5 ID.cells y.ai y.d.ins.length y.ci xs) : MSd w0 w' lo gP cap ys m { dm with ins := xs } := by
  obtain ⟨ar, h1, h2, h3, h4⟩ := h.row
  have hm4 := h.l4 m y hy
  refine ⟨⟨ar, ?_, h2, h3, fun i x hx' j u hu => ?_⟩, fun i x hx' => ?_, hb.bel h.bel hl (hS.i y (List.mem_of_getElem? hy)), fun j arr T fz q0 q1 q2 q3 q4 q5 => ?_⟩
  · refine (hb.block gP (blk_lt h1) fun he => ?_).trans h1
    obtain ⟨ar', h5⟩ := hm4.i.typ he
    rw [h1] at h5
    cases h5
  · by_cases him : i = m
    · subst him
      rw [hy] at hx'
      cases hx'
      refine h4 i y hy j u ?_
      rw [dtm_self] at hu ⊢
      exact hu
    · refine h4 i x hx' j u ?_
      rw [dtm_other ys m _ { dm with ins := xs } x him]
      exact hu
  · by_cases him : i = m
    · subst him
      rw [hy] at hx'
      cases hx'
      rw [dtm_self]
      have h6 := hm4
      rw [dtm_self] at h6
      exact h6.own_i hb xs hx
    · rw [dtm_other ys m _ dm x him]
      refine (h.l4 i x hx').oth_i hm4 hb fun g hg => ?_
      rcases Nat.lt_or_gt_of_ne him with hlt | hgt
      · exact (hS.dis i m x y hlt hx' hy g).2.2.1 hg
      · exact fun e => (hS.dis m i y x hgt hy hx' g).2.2.1 e hg
  · have hj := h.ty j arr T fz q0 q1 q2 q3 q4 q5
    refine (hb.block j (blk_lt hj) fun he => ?_).trans hj
    obtain ⟨ar', h5⟩ := hm4.i.typ he
    rw [hj] at h5
    cases h5
    exact q4 rfl

theorem MSd.n {w0 w w' : World} {lo gP cap : Nat} {ys : List FC} {m : Nat} {y : FC} {dm : FD} (h : MSd w0 w lo gP cap ys m dm) (hS : SC0 lo ys) (hl : lo ≤ w0.heap.size) (hy : ys[m]? = some y) (hb : Bo y.an w w') (xs : List ND) (hx : LC w' 116 4 ND.cells y.an y.d.named.length y.cn xs) : MSd w0 w' lo gP cap ys m { dm with named := xs } := by
  obtain ⟨ar, h1, h2, h3, h4⟩ := h.row
  have hm4 := h.l4 m y hy
  refine ⟨⟨ar, ?_, h2, h3, fun i x hx' j u hu => ?_⟩, fun i x hx' => ?_, hb.bel h.bel hl (hS.n y (List.mem_of_getElem? hy)), fun j arr T fz q0 q1 q2 q3 q4 q5 => ?_⟩
  · refine (hb.block gP (blk_lt h1) fun he => ?_).trans h1
    obtain ⟨ar', h5⟩ := hm4.n.typ he
    rw [h1] at h5
    cases h5
  · by_cases him : i = m
    · subst him
      rw [hy] at hx'
      cases hx'
      refine h4 i y hy j u ?_
      rw [dtm_self] at hu ⊢
      exact hu
    · refine h4 i x hx' j u ?_
      rw [dtm_other ys m _ { dm with named := xs } x him]
      exact hu
  · by_cases him : i = m
    · subst him
      rw [hy] at hx'
      cases hx'
      rw [dtm_self]
      have h6 := hm4
      rw [dtm_self] at h6
      exact h6.own_n hb xs hx
    · rw [dtm_other ys m _ dm x him]
      refine (h.l4 i x hx').oth_n hm4 hb fun g hg => ?_
      rcases Nat.lt_or_gt_of_ne him with hlt | hgt
      · exact (hS.dis i m x y hlt hx' hy g).2.2.2 hg
      · exact fun e => (hS.dis m i y x hgt hy hx' g).2.2.2 e hg
  · have hj := h.ty j arr T fz q0 q1 q2 q3 q4 q5
    refine (hb.block j (blk_lt hj) fun he => ?_).trans hj
    obtain ⟨ar', h5⟩ := hm4.n.typ he
    rw [hj] at h5
    cases h5
    exact q5 rfl

set_option maxRecDepth 20000 in
set_option maxHeartbeats 16000000 in
theorem mkps_row (gP len cap lo : Nat) (ys : List FC) (w : World) (h : MS w w lo gP cap ys 0) (hS : SC0 lo ys) (hlo : lo ≤ gP) (hlw : lo ≤ w.heap.size) (hl : ys.length = len) (hlen : len ≤ 1048576) (hok : ∀ y ∈ ys, y.d.ok) :
    Calls Tryz.prog 36 #[.slice (some ⟨gP, 0, none⟩) len cap, .int .i64 1] w fun e w' => e = .returned (.int .i64 ((KK ys len : Nat) : Int)) ∧ MS w w' lo gP cap ys len := by
  have HL : Hid (ys.length = len) := hl
  have HO : Hid (∀ y ∈ ys, y.d.ok) := hok
  have HS : Hid (SC0 lo ys) := hS
  have H0 : Hid (MS w w lo gP cap ys 0) := h
  have hcap : len ≤ cap := by obtain ⟨ar, _, _, h3, _⟩ := h.row; omega
  clear h hl hok hS
  go_enter Tryz.func36, Tryz.ntmps36
  go_wp2_with fail
  go_loopw [1, 5] (fun kk ii wr => ∃ (m K : Nat), m ≤ len ∧ ii = .int .i64 m ∧ kk = .int .i64 (K : Int) ∧ 0 < K ∧ K ≤ 1 + m * 16777221 ∧ Hid (K = KK ys m) ∧ Hid (MS w wr lo gP cap ys m)) (fun _ ii _ => len - (intOf ii).toNat)
  case atStart => exact ⟨0, 1, Nat.zero_le _, rfl, rfl, by omega, by omega, rfl, H0⟩
  case round =>
    clear H0
    obtain ⟨m, K, hm, rfl, rfl, hK0, hK1, HK, HM⟩ := hrel
    by_cases k1 : m < len
    · obtain ⟨y, hy⟩ : ∃ y, ys[m]? = some y := ⟨ys[m]'(by rw [HL.out]; exact k1), by simp⟩
      have ok := HO.out y (List.mem_of_getElem? hy)
      obtain ⟨b1, b2, b3, b4⟩ := (⟨ok.lu, ok.lc, ok.li, ok.ln⟩ : _ ∧ _ ∧ _ ∧ _)
      have HY : Hid (ys[m]? = some y) := hy
      have HD0 : Hid (MSd w wr lo gP cap ys m y.d) := HM.out.into hy
      clear hy ok HM
      obtain ⟨nu, hnu⟩ : ∃ n, n = y.d.ups.length := ⟨_, rfl⟩
      obtain ⟨nc, hnc⟩ : ∃ n, n = y.d.consts.length := ⟨_, rfl⟩
      obtain ⟨ni, hni⟩ : ∃ n, n = y.d.ins.length := ⟨_, rfl⟩
      obtain ⟨nn, hnn⟩ : ∃ n, n = y.d.named.length := ⟨_, rfl⟩
      have HN : Hid (nu = y.d.ups.length ∧ nc = y.d.consts.length ∧ ni = y.d.ins.length ∧ nn = y.d.named.length) := ⟨hnu, hnc, hni, hnn⟩
      rw [← hnu] at b1
      rw [← hnc] at b2
      rw [← hni] at b3
      rw [← hnn] at b4
      clear hnu hnc hni hnn
      go_wp2_with fail
      refine (mtx_at K _ rfl _ (by omega) (by omega)).mono ?_
      rintro e w1 ⟨rfl, hx⟩
      have HD1 : Hid (MSd w w1 lo gP cap ys m y.d) := HD0.out.later hlw hx
      clear hx HD0
      have e0 := HD1.out.cells HY.out 0 _ rfl
      have e1 := HD1.out.cells HY.out 1 _ rfl
      have e2 := HD1.out.cells HY.out 2 _ rfl
      have e3 := HD1.out.cells HY.out 3 _ rfl
      have e4 := HD1.out.cells HY.out 4 _ rfl
      have e5 := HD1.out.cells HY.out 5 _ rfl
      rw [Nat.add_zero] at e0
      rw [← HN.out.1] at e5
      have z1 := HD1.out.froz
      have HD2 : Hid (MSd w (((((w1.setCell ⟨gP, m * 9, none⟩ (.string (mtx K))).setCell ⟨gP, m * 9 + 1, none⟩ (.int .i64 ((K : Int) + 1))).setCell ⟨gP, m * 9 + 2, none⟩ (.int .i64 ((K : Int) + 1 + 1))).setCell ⟨gP, m * 9 + 3, none⟩ (.bool (decide (((K : Int) + 1 + 1 + 1) % 3 = 0)))).setCell ⟨gP, m * 9 + 4, none⟩ (.int .i64 ((K : Int) + 1 + 1 + 1 + 1))) lo gP cap ys m { y.d with name := mtx K, line := (K : Int) + 1, params := (K : Int) + 1 + 1, rest := decide (((K : Int) + 1 + 1 + 1) % 3 = 0), regs := (K : Int) + 1 + 1 + 1 + 1 }) := by
        have s0 := HD1.out.fld HY.out hlo 0 (by omega) (.string (mtx K)) { y.d with name := mtx K } rfl rfl rfl rfl (fun j => by match j with | 0 => rfl | 1 => rfl | 2 => rfl | 3 => rfl | 4 => rfl | j + 5 => rfl)
        have s1 := s0.fld HY.out hlo 1 (by omega) (.int .i64 ((K : Int) + 1)) { y.d with name := mtx K, line := (K : Int) + 1 } rfl rfl rfl rfl (fun j => by match j with | 0 => rfl | 1 => rfl | 2 => rfl | 3 => rfl | 4 => rfl | j + 5 => rfl)
        have s2 := s1.fld HY.out hlo 2 (by omega) (.int .i64 ((K : Int) + 1 + 1)) { y.d with name := mtx K, line := (K : Int) + 1, params := (K : Int) + 1 + 1 } rfl rfl rfl rfl (fun j => by match j with | 0 => rfl | 1 => rfl | 2 => rfl | 3 => rfl | 4 => rfl | j + 5 => rfl)
        have s3 := s2.fld HY.out hlo 3 (by omega) (.bool (decide (((K : Int) + 1 + 1 + 1) % 3 = 0))) { y.d with name := mtx K, line := (K : Int) + 1, params := (K : Int) + 1 + 1, rest := decide (((K : Int) + 1 + 1 + 1) % 3 = 0) } rfl rfl rfl rfl (fun j => by match j with | 0 => rfl | 1 => rfl | 2 => rfl | 3 => rfl | 4 => rfl | j + 5 => rfl)
        exact s3.fld HY.out hlo 4 (by omega) (.int .i64 ((K : Int) + 1 + 1 + 1 + 1)) _ rfl rfl rfl rfl (fun j => by match j with | 0 => rfl | 1 => rfl | 2 => rfl | 3 => rfl | 4 => rfl | j + 5 => rfl)
      have LU := (HD2.out.l4 m y HY.out).u
      rw [dtm_self, ← HN.out.1] at LU
      have HLU : Hid _ := LU
      clear LU HD1
      go_wp2_with fail
      refine (mkU_lc _ nu _ (K + 5) _ (by omega) _ _ HLU.out b1 (by omega) (by omega)).mono ?_
      rintro e w2 ⟨rfl, hb, hx⟩
      rw [HN.out.1] at hx
      have HD3 : Hid _ := HD2.out.u HS.out hlw HY.out hb _ hx
      clear hb hx e0 e1 e2 e3 e4 e5 z1 HD2 HLU
      have e6 := HD3.out.cells HY.out 6 _ rfl
      rw [← HN.out.2.1] at e6
      have LU := (HD3.out.l4 m y HY.out).c
      rw [dtm_self, ← HN.out.2.1] at LU
      have HLU : Hid _ := LU
      clear LU
      go_wp2_with fail
      refine (mkV_lc _ nc _ (K + 5 + 2 * nu) _ (by omega) _ _ HLU.out b2 (by omega) (by omega)).mono ?_
      rintro e w3 ⟨rfl, hb, hx⟩
      rw [HN.out.2.1] at hx
      have HD4 : Hid _ := HD3.out.c HS.out hlw HY.out hb _ hx
      clear hb hx e6 HD3 HLU
      have e7 := HD4.out.cells HY.out 7 _ rfl
      rw [← HN.out.2.2.1] at e7
      have LU := (HD4.out.l4 m y HY.out).i
      rw [dtm_self, ← HN.out.2.2.1] at LU
      have HLU : Hid _ := LU
      clear LU
      go_wp2_with fail
      refine (mkI_lc _ ni _ (K + 5 + 2 * nu + 5 * nc) _ (by omega) _ _ HLU.out b3 (by omega) (by omega)).mono ?_
      rintro e w4 ⟨rfl, hb, hx⟩
      rw [HN.out.2.2.1] at hx
      have HD5 : Hid _ := HD4.out.i HS.out hlw HY.out hb _ hx
      clear hb hx e7 HD4 HLU
      have e8 := HD5.out.cells HY.out 8 _ rfl
      rw [← HN.out.2.2.2] at e8
      have LU := (HD5.out.l4 m y HY.out).n
      rw [dtm_self, ← HN.out.2.2.2] at LU
      have HLU : Hid _ := LU
      clear LU
      go_wp2_with fail
      refine (mkN_lc _ nn _ (K + 5 + 2 * nu + 5 * nc + 5 * ni) _ (by omega) _ _ HLU.out b4 (by omega) (by omega)).mono ?_
      rintro e w5 ⟨rfl, hb, hx⟩
      rw [HN.out.2.2.2] at hx
      have HD6 : Hid _ := HD5.out.n HS.out hlw HY.out hb _ hx
      have HM9 : Hid (MS w w5 lo gP cap ys (m + 1)) := by
        refine MSd.done (y := y) ?_ HY.out
        have := HD6.out
        rw [HN.out.1, HN.out.2.1, HN.out.2.2.1, HK.out] at this
        exact this
      clear hb hx e8 HD5 HLU HD6
      have HK9 : Hid (K + 5 + 2 * nu + 5 * nc + 5 * ni + 4 * nn = KK ys (m + 1)) := by
        show _ = _
        rw [KK_succ HY.out, ← HK.out]
        unfold cnt
        rw [← HN.out.1, ← HN.out.2.1, ← HN.out.2.2.1, ← HN.out.2.2.2]
        omega
      go_wp2_with fail
      go_roundw
      case rel => exact ⟨m + 1, K + 5 + 2 * nu + 5 * nc + 5 * ni + 4 * nn, by omega, by go_num, rfl, by omega, by omega, HK9, HM9⟩
      case measure => simp [intOf]; omega
    · have hml : m = len := by omega
      have HE : Hid ((K : Int) = ((KK ys len : Nat) : Int)) := by show _ = _; rw [HK.out, hml]
      clear HK
      go_wp2_with fail
      go_ret
      exact ⟨by show Ending.returned (.int .i64 (K : Int)) = _; rw [HE.out], by have := HM.out; rw [hml] at this; exact this⟩
end Go.Proofs.YtfkeklndcjkgcaaGreatDoor

/-
  OWN WORK. Codes: marked, and held against their marks.
-/
namespace Go.Proofs.YtfkeklndcjkgcaaGreatDoor
open Go.RowKit
attribute [local go_sem] run_store_float
set_option linter.unusedVariables false
set_option linter.unusedSimpArgs false

/-- A code that holds its marks. -/
def Mkd (w : World) (a : Option Addr) (ys : List FC) : Prop := ∀ (i : Nat) (y : FC), ys[i]? = some y → ∃ gP, a = some ⟨gP, 0, none⟩ ∧ (∀ (j : Nat) (v : Value), (hcells y (mkD y.d (KK ys i)))[j]? = some v → w.cell? ⟨gP, i * 9 + j, none⟩ = some v) ∧ L4 w y (mkD y.d (KK ys i))
theorem Mkd.later {w w' : World} {a : Option Addr} {ys : List FC} (h : Mkd w a ys) (hb : Below w.heap.size w w') : Mkd w' a ys := fun i y hy => by
  obtain ⟨gP, e, h1, h2⟩ := h i y hy
  exact ⟨gP, e, fun j v hv => cell_later hb (h1 j v hv), h2.later hb⟩
theorem MS.mkd {w0 w : World} {lo gP cap : Nat} {ys : List FC} {len : Nat} (h : MS w0 w lo gP cap ys len) (hl : ys.length = len) : Mkd w (some ⟨gP, 0, none⟩) ys := fun i y hy => by
  have hi := (List.getElem?_eq_some_iff.1 hy).1
  have hd : dat ys len i y = mkD y.d (KK ys i) := by unfold dat; rw [if_pos (by omega)]
  obtain ⟨ar, h1, h2, h3, h4⟩ := h.row
  refine ⟨gP, rfl, fun j v hv => ?_, by rw [← hd]; exact h.l4 i y hy⟩
  rw [blk_cell h1]
  exact h4 i y hy j v (by rw [hd]; exact hv)

set_option maxRecDepth 20000 in
set_option maxHeartbeats 16000000 in
theorem hdps_any (a : Option Addr) (len cap : Nat) (ys : List FC) (w : World) (h : Mkd w a ys) (hl : ys.length = len) (hlen : len ≤ 1048576) (hok : ∀ y ∈ ys, y.d.ok) :
    Calls Tryz.prog 40 #[.slice a len cap, .int .i64 1] w fun e w' => e = .returned (.int .i64 ((KK ys len : Nat) : Int)) ∧ Below w.heap.size w w' := by
  have HL : Hid (ys.length = len) := hl
  have HO : Hid (∀ y ∈ ys, y.d.ok) := hok
  have H0 : Hid (Mkd w a ys) := h
  clear h hl hok
  go_enter Tryz.func40, Tryz.ntmps40
  go_wp2_with fail
  go_loopw [1, 5] (fun kk ii wr => ∃ (m K : Nat), m ≤ len ∧ ii = .int .i64 m ∧ kk = .int .i64 (K : Int) ∧ 0 < K ∧ K ≤ 1 + m * 16777221 ∧ Hid (K = KK ys m) ∧ Hid (Below w.heap.size w wr)) (fun _ ii _ => len - (intOf ii).toNat)
  case atStart => exact ⟨0, 1, Nat.zero_le _, rfl, rfl, by omega, by omega, rfl, Below.refl _ _⟩
  case round =>
    obtain ⟨m, K, hm, rfl, rfl, hK0, hK1, HK, HB⟩ := hrel
    by_cases k1 : m < len
    · obtain ⟨y, hy⟩ : ∃ y, ys[m]? = some y := ⟨ys[m]'(by rw [HL.out]; exact k1), by simp⟩
      have ok := HO.out y (List.mem_of_getElem? hy)
      obtain ⟨b1, b2, b3, b4⟩ := (⟨ok.lu, ok.lc, ok.li, ok.ln⟩ : _ ∧ _ ∧ _ ∧ _)
      obtain ⟨gP, rfl, hc, hL⟩ := H0.out.later HB.out m y hy
      rw [← HK.out] at hc hL
      have HY : Hid (ys[m]? = some y) := hy
      have HL4 : Hid (L4 wr y (mkD y.d K)) := hL
      obtain ⟨nu, hnu⟩ : ∃ n, n = y.d.ups.length := ⟨_, rfl⟩
      obtain ⟨nc, hnc⟩ : ∃ n, n = y.d.consts.length := ⟨_, rfl⟩
      obtain ⟨ni, hni⟩ : ∃ n, n = y.d.ins.length := ⟨_, rfl⟩
      obtain ⟨nn, hnn⟩ : ∃ n, n = y.d.named.length := ⟨_, rfl⟩
      have HN : Hid (nu = y.d.ups.length ∧ nc = y.d.consts.length ∧ ni = y.d.ins.length ∧ nn = y.d.named.length) := ⟨hnu, hnc, hni, hnn⟩
      have HU : Hid (SlA wr 2 UD.cells y.au (mkL mkU 2 (K + 5) nu)) := by rw [hnu]; exact hL.u.at
      have HV : Hid (SlA wr 5 VD.cells y.ac (mkL mkV 5 (K + 5 + 2 * nu) nc)) := by rw [hnu, hnc]; exact hL.c.at
      have HI : Hid (SlA wr 5 ID.cells y.ai (mkL mkI 5 (K + 5 + 2 * nu + 5 * nc) ni)) := by rw [hnu, hnc, hni]; exact hL.i.at
      have HW : Hid (SlA wr 4 ND.cells y.an (mkL mkN 4 (K + 5 + 2 * nu + 5 * nc + 5 * ni) nn)) := by rw [hnu, hnc, hni, hnn]; exact hL.n.at
      have c0 : wr.cell? ⟨gP, m * 9, none⟩ = some (.string (mtx K)) := by have := hc 0 _ rfl; exact this
      have c1 : wr.cell? ⟨gP, m * 9 + 1, none⟩ = some (.int .i64 ((K : Int) + 1)) := hc 1 _ rfl
      have c2 : wr.cell? ⟨gP, m * 9 + 2, none⟩ = some (.int .i64 ((K : Int) + 1 + 1)) := hc 2 _ rfl
      have c3 : wr.cell? ⟨gP, m * 9 + 3, none⟩ = some (.bool (decide (((K : Int) + 1 + 1 + 1) % 3 = 0))) := hc 3 _ rfl
      have c4 : wr.cell? ⟨gP, m * 9 + 4, none⟩ = some (.int .i64 ((K : Int) + 1 + 1 + 1 + 1)) := hc 4 _ rfl
      have c5 : wr.cell? ⟨gP, m * 9 + 5, none⟩ = some (.slice y.au nu y.cu) := by rw [hnu]; exact hc 5 _ rfl
      have c6 : wr.cell? ⟨gP, m * 9 + 6, none⟩ = some (.slice y.ac nc y.cc) := by rw [hnc]; exact hc 6 _ rfl
      have c7 : wr.cell? ⟨gP, m * 9 + 7, none⟩ = some (.slice y.ai ni y.ci) := by rw [hni]; exact hc 7 _ rfl
      have c8 : wr.cell? ⟨gP, m * 9 + 8, none⟩ = some (.slice y.an nn y.cn) := by rw [hnn]; exact hc 8 _ rfl
      rw [← hnu] at b1
      rw [← hnc] at b2
      rw [← hni] at b3
      rw [← hnn] at b4
      have hq : ((((K : Int) + 1 + 1 + 1) % 3 == 0)) = decide (((K : Int) + 1 + 1 + 1) % 3 = 0) := rfl
      have HM : Hid (∀ W, Calls Tryz.prog 69 #[.int .i64 (K : Int)] W fun e w' => e = .returned (.string (mtx K)) ∧ Below W.heap.size W w') := fun W => mtx_at K _ rfl W (by omega) (by omega)
      clear hc hL hy ok HL4 hnu hnc hni hnn
      go_wp2_with fail
      have f0 := lat_cell c0
      haveI := lat_some wr
      refine wp_region_lat (by kernel_rfl) (by kernel_rfl) ?_
      repeat (go_big_quiet_step ((go_at_call 69; refine lat_calls (HM.out _))))
      refine wpQuiet_nil ?_
      rintro _ ⟨nq, rfl⟩
      have hnb := nq.below
      replace c1 := lat_cell c1 nq; replace c2 := lat_cell c2 nq; replace c3 := lat_cell c3 nq; replace c4 := lat_cell c4 nq; replace c5 := lat_cell c5 nq; replace c6 := lat_cell c6 nq; replace c7 := lat_cell c7 nq; replace c8 := lat_cell c8 nq
      obtain ⟨w2, hw2⟩ : ∃ w2, w2 = nq.wd := ⟨_, rfl⟩
      rw [← hw2] at hnb c1 c2 c3 c4 c5 c6 c7 c8 ⊢
      replace HU : Hid (SlA w2 2 UD.cells y.au (mkL mkU 2 (K + 5) nu)) := SlA.later hnb HU.out
      replace HV : Hid (SlA w2 5 VD.cells y.ac (mkL mkV 5 (K + 5 + 2 * nu) nc)) := SlA.later hnb HV.out
      replace HI : Hid (SlA w2 5 ID.cells y.ai (mkL mkI 5 (K + 5 + 2 * nu + 5 * nc) ni)) := SlA.later hnb HI.out
      replace HW : Hid (SlA w2 4 ND.cells y.an (mkL mkN 4 (K + 5 + 2 * nu + 5 * nc + 5 * ni) nn)) := SlA.later hnb HW.out
      replace HB : Hid (Below w.heap.size w w2) := HB.out.trans (hnb.mono HB.out.size)
      clear hw2 nq hnb f0 c0
      go_wp2_with fail
      refine (hdU_int _ nu _ (K + 5) _ (by omega) _ HU.out b1 (by omega) (by omega)).mono ?_
      rintro e w3 ⟨rfl, hx⟩
      replace c6 := cell_later hx c6; replace c7 := cell_later hx c7; replace c8 := cell_later hx c8
      replace HV : Hid (SlA w3 5 VD.cells y.ac (mkL mkV 5 (K + 5 + 2 * nu) nc)) := SlA.later hx HV.out
      replace HI : Hid (SlA w3 5 ID.cells y.ai (mkL mkI 5 (K + 5 + 2 * nu + 5 * nc) ni)) := SlA.later hx HI.out
      replace HW : Hid (SlA w3 4 ND.cells y.an (mkL mkN 4 (K + 5 + 2 * nu + 5 * nc + 5 * ni) nn)) := SlA.later hx HW.out
      replace HB : Hid (Below w.heap.size w w3) := HB.out.trans (hx.mono HB.out.size)
      clear hx c1 c2 c3 c4 c5 HU hq
      go_wp2_with fail
      refine (hdV_int _ nc _ (K + 5 + 2 * nu) _ (by omega) _ HV.out b2 (by omega) (by omega)).mono ?_
      rintro e w4 ⟨rfl, hx⟩
      replace c7 := cell_later hx c7; replace c8 := cell_later hx c8
      replace HI : Hid (SlA w4 5 ID.cells y.ai (mkL mkI 5 (K + 5 + 2 * nu + 5 * nc) ni)) := SlA.later hx HI.out
      replace HW : Hid (SlA w4 4 ND.cells y.an (mkL mkN 4 (K + 5 + 2 * nu + 5 * nc + 5 * ni) nn)) := SlA.later hx HW.out
      replace HB : Hid (Below w.heap.size w w4) := HB.out.trans (hx.mono HB.out.size)
      clear hx c6 HV
      go_wp2_with fail
      refine (hdI_int _ ni _ (K + 5 + 2 * nu + 5 * nc) _ (by omega) _ HI.out b3 (by omega) (by omega)).mono ?_
      rintro e w5 ⟨rfl, hx⟩
      replace c8 := cell_later hx c8
      replace HW : Hid (SlA w5 4 ND.cells y.an (mkL mkN 4 (K + 5 + 2 * nu + 5 * nc + 5 * ni) nn)) := SlA.later hx HW.out
      replace HB : Hid (Below w.heap.size w w5) := HB.out.trans (hx.mono HB.out.size)
      clear hx c7 HI
      go_wp2_with fail
      refine (hdN_int _ nn _ (K + 5 + 2 * nu + 5 * nc + 5 * ni) _ (by omega) _ HW.out b4 (by omega) (by omega)).mono ?_
      rintro e w6 ⟨rfl, hx⟩
      replace HB : Hid (Below w.heap.size w w6) := HB.out.trans (hx.mono HB.out.size)
      clear hx c8 HW
      have HK9 : Hid (K + 5 + 2 * nu + 5 * nc + 5 * ni + 4 * nn = KK ys (m + 1)) := by
        show _ = _
        rw [KK_succ HY.out, ← HK.out]
        unfold cnt
        rw [← HN.out.1, ← HN.out.2.1, ← HN.out.2.2.1, ← HN.out.2.2.2]
        omega
      go_wp2_with fail
      go_roundw
      case rel => exact ⟨m + 1, K + 5 + 2 * nu + 5 * nc + 5 * ni + 4 * nn, by omega, by go_num, rfl, by omega, by omega, HK9, HB⟩
      case measure => simp [intOf]; omega
    · have hml : m = len := by omega
      have HE : Hid ((K : Int) = ((KK ys len : Nat) : Int)) := by show _ = _; rw [HK.out, hml]
      clear HK
      go_wp2_with fail
      go_ret
      exact ⟨by show Ending.returned (.int .i64 (K : Int)) = _; rw [HE.out], HB.out⟩

set_option maxRecDepth 20000 in
set_option maxHeartbeats 4000000 in
theorem hdc_any (a : Option Addr) (len cap : Nat) (ys : List FC) (w : World) (h : Mkd w a ys) (hl : ys.length = len) (hlen : len ≤ 1048576) (hok : ∀ y ∈ ys, y.d.ok) :
    Calls Tryz.prog 20 #[.agg #[.slice a len cap], .int .i64 1] w fun e w' => e = .returned (.int .i64 ((KK ys len : Nat) : Int)) ∧ Below w.heap.size w w' := by
  have hy := bw1 w (CO (.slice a len cap))
  have HM : Hid (Calls _ _ _ _ _) := hdps_any a len cap ys _ (h.later hy) hl hlen hok
  have hK := KK_pos ys len
  have hK2 : KK ys len ≤ 1 + len * 16777221 := KK_le hok len (by omega)
  obtain ⟨K, hKK⟩ : ∃ K, K = KK ys len := ⟨_, rfl⟩
  rw [← hKK] at HM hK hK2 ⊢
  clear h hl hok hKK
  go_enter Tryz.func20, Tryz.ntmps20
  go_wp2_with fail
  refine Calls.mono (show Calls _ _ _ _ _ from HM.out) ?_
  rintro e w2 ⟨rfl, hx⟩
  go_wp2_with fail
  go_ret
  exact ⟨rfl, hy.trans (hx.mono (by simp))⟩

set_option maxRecDepth 20000 in
set_option maxHeartbeats 4000000 in
theorem mkps_nil (cap : Nat) (w : World) :
    Calls Tryz.prog 36 #[.slice none 0 cap, .int .i64 1] w fun e w' => e = .returned (.int .i64 1) ∧ w' = w := by
  go_enter Tryz.func36, Tryz.ntmps36
  go_wp2_with fail
  refine wp_loop_rounds 1 ?_
  rw [rounds_succ]
  go_wp2_with fail
  go_ret
  exact ⟨rfl, rfl⟩

theorem orow_l4 {w : World} {lo : Nat} {y : FC} (h : y.orow w lo) : L4 w y y.d := ⟨LC.of h.u rfl UD.len, LC.of h.c rfl VD.len, LC.of h.i rfl ID.len, LC.of h.n rfl ND.len⟩
theorem OwnC.sc {w : World} {lo : Nat} {sv : Value} {xs : List FC} (h : OwnC w lo sv xs) : SC0 lo xs :=
  ⟨h.dis, fun y hy g e => ((h.own y hy).u.at_ e).1, fun y hy g e => ((h.own y hy).c.at_ e).1, fun y hy g e => ((h.own y hy).i.at_ e).1, fun y hy g e => ((h.own y hy).n.at_ e).1⟩

set_option maxRecDepth 20000 in
set_option maxHeartbeats 4000000 in
theorem mkc_any (a : Option Addr) (len cap lo : Nat) (ys : List FC) (w : World) (h : OwnC w lo (.slice a len cap) ys) (hl : ys.length = len) (hlw : lo ≤ w.heap.size) :
    Calls Tryz.prog 14 #[.agg #[.slice a len cap], .int .i64 1] w fun e w' => e = .returned (.int .i64 ((KK ys len : Nat) : Int)) ∧ Below lo w w' ∧ Mkd w' a ys ∧ Ty5 w w' := by
  have hy := bw1 w (CO (.slice a len cap))
  have h2 := h.later hy
  have hlen := h.len
  have HM : Hid (Calls Tryz.prog 36 #[.slice a len cap, .int .i64 1] (w.alloc (CO (.slice a len cap))) fun e w' => e = .returned (.int .i64 ((KK ys len : Nat) : Int)) ∧ Below lo w w' ∧ Mkd w' a ys ∧ Ty5 w w') := by
    rcases h2.row.2 with ⟨e, h0⟩ | ⟨g, cap', cur, e, e2, e3, e4, e5, e6, e7⟩
    · cases e
      have : ys = [] := List.length_eq_zero_iff.1 h0
      subst this
      refine (mkps_nil 0 _).mono ?_
      rintro e w' ⟨rfl, rfl⟩
      exact ⟨rfl, (bw1 _ _).mono hlw, (fun i y hy => by simp at hy), (Ty5.refl _).later (bw1 _ _)⟩
    · cases e
      have hrc := h2.row.rowC FC.len
      obtain ⟨ar, r1, r2, r3, r4⟩ := hrc
      have hMS : MS (w.alloc (CO (.slice (some ⟨g, 0, none⟩) ys.length cap))) (w.alloc (CO (.slice (some ⟨g, 0, none⟩) ys.length cap))) lo g cap ys 0 := by
        refine ⟨⟨ar, r1, r2, r3, fun i y hi j v hv => r4 i y (List.getElem?_eq_some_iff.1 hi).1 hi j v hv⟩, fun i y hi => ?_, Below.refl _ _, Ty5.refl _⟩
        exact orow_l4 (h2.own y (List.mem_of_getElem? hi))
      refine (mkps_row g ys.length cap lo ys _ hMS h2.sc e2 (Nat.le_trans hlw hy.size) rfl (by omega) h2.ok).mono ?_
      rintro e w' ⟨rfl, hm⟩
      exact ⟨rfl, (hy.mono hlw).trans hm.bel, hm.mkd rfl, fun j arr T fz q0 q1 q2 q3 q4 q5 => hm.ty j arr T fz (blk_later hy q0) q1 q2 q3 q4 q5⟩
  clear h hl h2
  obtain ⟨K, hKK⟩ : ∃ K, K = KK ys len := ⟨_, rfl⟩
  rw [← hKK] at HM ⊢
  clear hKK
  go_enter Tryz.func14, Tryz.ntmps14
  go_wp2_with fail
  refine Calls.mono (show Calls _ _ _ _ _ from HM.out) ?_
  rintro e w2 ⟨rfl, hx, hm, hty⟩
  go_wp2_with fail
  go_ret
  exact ⟨rfl, hx, hm, hty⟩
end Go.Proofs.YtfkeklndcjkgcaaGreatDoor
