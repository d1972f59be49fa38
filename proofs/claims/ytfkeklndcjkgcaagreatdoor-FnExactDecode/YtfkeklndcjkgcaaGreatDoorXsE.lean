import Derived.Test.YtfkeklndcjkgcaaGreatDoorXSpE
import Derived.Test.YtfkeklndcjkgcaaGreatDoorFlX
/-
  OWN WORK. Lists of a code: marked, what they hold then; held against their marks.
-/
namespace Go.Proofs.YtfkeklndcjkgcaaGreatDoor
open Go.RowKit
attribute [local go_sem] run_store_float
set_option linter.unusedVariables false
set_option linter.unusedSimpArgs false

theorem foi_self (n : Nat) (h0 : 0 < n) (h1 : n < 9007199254740992) : FloatKind.f64.format.order (floatOfInt .f64 (n : Int)) (floatOfInt .f64 (n : Int)) = some .eq := by
  obtain ⟨M, L, c, hc, _, he, _⟩ := Fl.nearest_int false n h0 h1
  have e : floatOfInt .f64 (n : Int) = Fl.wd false M L := by
    rw [Fl.foi, Int.natAbs_natCast, show decide ((n : Int) < 0) = false by simp]; exact he
  have hr := Fl.read_wd false M L hc
  rw [e, Fl.order_wd hr hr, Int.compare_eq_eq.2 rfl]

/-- A text that is a mark, at a number as the walk has it. -/
theorem mtx_at (k : Nat) (z : Int) (hz : z = (k : Int)) (W : World) (hk : 0 < k) (hk2 : k ≤ 100000000000000) : Calls Tryz.prog 69 #[.int .i64 z] W fun e w' => e = .returned (.string (mtx k)) ∧ Below W.heap.size W w' := by
  rw [hz]; exact mtx_any k W hk hk2
def mkU (K : Nat) : UD := ⟨decide ((K : Int) % 3 = 0), (K : Int) + 1⟩
def mkV (K : Nat) : VD := ⟨(K : Int), (K : Int) + 1, floatOfInt .f64 ((K : Int) + 1 + 1), mtx (K + 3), (K : Int) + 1 + 1 + 1 + 1⟩
def mkI (K : Nat) : ID := ⟨(K : Int), (K : Int) + 1, (K : Int) + 1 + 1, (K : Int) + 1 + 1 + 1, (K : Int) + 1 + 1 + 1 + 1⟩
def mkN (K : Nat) : ND := ⟨mtx K, (K : Int) + 1, (K : Int) + 1 + 1, (K : Int) + 1 + 1 + 1⟩
/-- Marks of a list, from a number on. -/
def mkL {α : Type} (f : Nat → α) (k : Nat) (K len : Nat) : List α := (List.range len).map fun i => f (K + k * i)
theorem mkL_get {α : Type} (f : Nat → α) (k K len m : Nat) (h : m < len) : (mkL f k K len)[m]? = some (f (K + k * m)) := by
  unfold mkL
  rw [List.getElem?_map, List.getElem?_range h]; rfl
theorem mkL_len {α : Type} (f : Nat → α) (k K len : Nat) : (mkL f k K len).length = len := by simp [mkL]
/-- A row in a block, the block longer than it. -/
def RowC {α : Type} (w : World) (g N : Nat) (T : TypeId) (k : Nat) (cells : α → List Value) (xs : List α) : Prop := ∃ ar, w.heap[g]? = some (.cells ar T) ∧ ar.size = N * k ∧ xs.length ≤ N ∧ ContG k cells xs ar xs.length
theorem RowC.later {α : Type} {w wx : World} {g N k : Nat} {T : TypeId} {cells : α → List Value} {xs : List α} (h : RowC w g N T k cells xs) (hb : Below w.heap.size w wx) : RowC wx g N T k cells xs := by
  obtain ⟨ar, h1, h2, h3⟩ := h
  exact ⟨ar, blk_later hb h1, h2, h3⟩
theorem RowC.keep {α : Type} {w wx : World} {g N k : Nat} {T : TypeId} {cells : α → List Value} {xs : List α} (h : RowC w g N T k cells xs) (hb : wx.heap[g]? = w.heap[g]?) : RowC wx g N T k cells xs := by
  obtain ⟨ar, h1, h2, h3⟩ := h
  exact ⟨ar, hb.trans h1, h2, h3⟩
theorem RowC.at {α : Type} {w : World} {g N k : Nat} {T : TypeId} {cells : α → List Value} {xs : List α} (h : RowC w g N T k cells xs) : SlA w k cells (some ⟨g, 0, none⟩) xs := by
  intro i x hi
  obtain ⟨ar, h1, h2, h3, h4⟩ := h
  refine ⟨g, 0, rfl, blk_lt h1, fun j v hv => ?_⟩
  rw [Nat.zero_add, blk_cell h1]
  exact h4 i x (List.getElem?_eq_some_iff.1 hi).1 hi j v hv
theorem ORow.rowC {α : Type} {w : World} {B : Nat} {et : TypeId} {k : Nat} {cells : α → List Value} {g n cap : Nat} {xs : List α} (h : ORow w B et k cells (.slice (some ⟨g, 0, Option.none⟩) n cap) xs) (hk : ∀ y, (cells y).length = k) : RowC w g cap et k cells xs := by
  rcases h.2 with ⟨e, _⟩ | ⟨g', cap', cur, e, e2, e3, e4, e5, e6, e7⟩
  · cases e
  · cases e
    refine ⟨cur, e3, e6, e4, fun i x hi hx j v hv => ?_⟩
    have hf := flat_at cells k xs i j x v (fun y _ => hk y) hx hv
    rw [← e7, List.getElem?_take] at hf
    split at hf
    · simpa using hf
    · cases hf
/-- All but one block is as it was. -/
structure Bo (a : Option Addr) (w w' : World) : Prop where
  os : w'.os = w.os
  tape : w'.tape = w.tape
  output : w'.output = w.output
  size : w.heap.size ≤ w'.heap.size
  block : ∀ j, j < w.heap.size → a ≠ some ⟨j, 0, none⟩ → w'.heap[j]? = w.heap[j]?
theorem Bo.refl (a : Option Addr) (w : World) : Bo a w w := ⟨rfl, rfl, rfl, Nat.le_refl _, fun _ _ _ => rfl⟩
theorem Bo.of_below {a : Option Addr} {w w' : World} (h : Below w.heap.size w w') : Bo a w w' := ⟨h.os, h.tape, h.output, h.size, fun j hj _ => h.block j hj⟩
theorem Bo.trans {a : Option Addr} {w w1 w2 : World} (h : Bo a w w1) (h' : Bo a w1 w2) : Bo a w w2 :=
  ⟨h'.os.trans h.os, h'.tape.trans h.tape, h'.output.trans h.output, Nat.le_trans h.size h'.size, fun j hj h1 => (h'.block j (Nat.lt_of_lt_of_le hj h.size) h1).trans (h.block j hj h1)⟩
theorem Bo.set {g : Nat} {w w' : World} (h : Bo (some ⟨g, 0, none⟩) w w') (j : Nat) (v : Value) : Bo (some ⟨g, 0, none⟩) w (w'.setCell ⟨g, j, none⟩ v) :=
  ⟨h.os, h.tape, h.output, by simpa using h.size, fun q hq h1 => by rw [Below.heap_setCell _ _ _ _ (by show q ≠ g; intro e; exact h1 (by rw [e]))]; exact h.block q hq h1⟩

set_option maxRecDepth 20000 in
set_option maxHeartbeats 8000000 in
theorem mkU_row (g len cap N k0 : Nat) (T : TypeId) (w : World) (hg : ∃ ar, w.heap[g]? = some (.cells ar T) ∧ ar.size = N * 2) (hs : len ≤ N) (hlen : len ≤ 1048576) (h0 : 0 < k0) (hk : k0 ≤ 30000000000000) :
    Calls Tryz.prog 70 #[.slice (some ⟨g, 0, none⟩) len cap, .int .i64 (k0 : Int)] w fun e w' => e = .returned (.int .i64 ((k0 + 2 * len : Nat) : Int)) ∧ Bo (some ⟨g, 0, none⟩) w w' ∧ RowC w' g N T 2 UD.cells (mkL mkU 2 k0 len) := by
  obtain ⟨ar0, ha0, hs0⟩ := hg
  have HG : Hid (w.heap[g]? = some (.cells ar0 T)) := ha0
  clear ha0
  go_enter Tryz.func70, Tryz.ntmps70
  go_wp2_with fail
  go_loopw [1, 5] (fun kk ii wr => ∃ (m K : Nat) (ar : Array Value), m ≤ len ∧ ii = .int .i64 m ∧ kk = .int .i64 (K : Int) ∧ 0 < K ∧ K ≤ 40000000000000 ∧ Hid (K = k0 + 2 * m) ∧ Hid (wr.heap[g]? = some (.cells ar T)) ∧ Hid (ar.size = N * 2) ∧ Hid (ContG 2 UD.cells (mkL mkU 2 k0 len) ar m) ∧ Hid (Bo (some ⟨g, 0, none⟩) w wr)) (fun _ ii _ => len - (intOf ii).toNat)
  case atStart => exact ⟨0, k0, ar0, Nat.zero_le _, rfl, rfl, h0, by omega, rfl, HG, hs0, contG_zero _ _ _ _, Bo.refl _ _⟩
  case round =>
    clear HG hs0
    obtain ⟨m, K, ar, hm, rfl, rfl, hK0, hK1, HK, HG, HS, HC, HB⟩ := hrel
    by_cases k1 : m < len
    · have hsz := HS.out
      have HC1 : Hid (ContG 2 UD.cells (mkL mkU 2 k0 len) (putl ar (m * 2) (mkU K).cells) (m + 1)) := contG_step (len := N) UD.len HC.out (by rw [HK.out]; exact mkL_get _ _ _ _ _ k1) HS.out (by omega)
      have HS1 : Hid ((putl ar (m * 2) (mkU K).cells).size = N * 2) := by show _ = _; rw [putl_size]; exact HS.out
      clear HC
      obtain ⟨y0, e0⟩ : ∃ y, wr.cell? ⟨g, m * 2, none⟩ = some y := ⟨_, (blk_cell HG.out (m * 2)).trans (Array.getElem?_eq_getElem (by omega))⟩
      obtain ⟨y1, e1⟩ : ∃ y, wr.cell? ⟨g, m * 2 + 1, none⟩ = some y := ⟨_, (blk_cell HG.out (m * 2 + 1)).trans (Array.getElem?_eq_getElem (by omega))⟩
      have z := blk_frozen HG.out
      have HG9 := blk_set (blk_set (HG.out) (m * 2) (.bool (decide ((K : Int) % 3 = 0)))) (m * 2 + 1) (.int .i64 ((K : Int) + 1))
      have HGX : Hid _ := HG9
      clear HG9
      have HG9 := HGX
      have HB9 : Hid _ := ((HB.out).set (m * 2) (.bool (decide ((K : Int) % 3 = 0)))).set (m * 2 + 1) (.int .i64 ((K : Int) + 1))
      go_wp2_with fail
      go_roundw
      case rel => exact ⟨m + 1, K + 2, putl ar (m * 2) (mkU K).cells, by omega, by go_num, by congr 1 <;> omega, by omega, by have := HK.out; omega, by have := HK.out; show K + 2 = _; omega, HG9, HS1, HC1, HB9⟩
      case measure => simp [intOf]; omega
    · have hml : m = len := by omega
      have HR : Hid ((K : Int) = ((k0 + 2 * len : Nat) : Int)) := by have := HK.out; show _ = _; rw [this, hml]
      clear HK
      go_wp2_with fail
      go_ret
      refine ⟨by show Ending.returned (.int .i64 (K : Int)) = _; rw [HR.out], HB.out, ar, HG.out, HS.out, by rw [mkL_len]; exact hs, ?_⟩
      rw [mkL_len, ← hml]
      have := HC.out
      rw [← hml] at this
      exact this

set_option maxRecDepth 20000 in
set_option maxHeartbeats 8000000 in
theorem mkV_row (g len cap N k0 : Nat) (T : TypeId) (w : World) (hg : ∃ ar, w.heap[g]? = some (.cells ar T) ∧ ar.size = N * 5) (hs : len ≤ N) (hlen : len ≤ 1048576) (h0 : 0 < k0) (hk : k0 ≤ 30000000000000) :
    Calls Tryz.prog 71 #[.slice (some ⟨g, 0, none⟩) len cap, .int .i64 (k0 : Int)] w fun e w' => e = .returned (.int .i64 ((k0 + 5 * len : Nat) : Int)) ∧ Bo (some ⟨g, 0, none⟩) w w' ∧ RowC w' g N T 5 VD.cells (mkL mkV 5 k0 len) := by
  obtain ⟨ar0, ha0, hs0⟩ := hg
  have HG : Hid (w.heap[g]? = some (.cells ar0 T)) := ha0
  clear ha0
  go_enter Tryz.func71, Tryz.ntmps71
  go_wp2_with fail
  go_loopw [1, 5] (fun kk ii wr => ∃ (m K : Nat) (ar : Array Value), m ≤ len ∧ ii = .int .i64 m ∧ kk = .int .i64 (K : Int) ∧ 0 < K ∧ K ≤ 40000000000000 ∧ Hid (K = k0 + 5 * m) ∧ Hid (wr.heap[g]? = some (.cells ar T)) ∧ Hid (ar.size = N * 5) ∧ Hid (ContG 5 VD.cells (mkL mkV 5 k0 len) ar m) ∧ Hid (Bo (some ⟨g, 0, none⟩) w wr)) (fun _ ii _ => len - (intOf ii).toNat)
  case atStart => exact ⟨0, k0, ar0, Nat.zero_le _, rfl, rfl, h0, by omega, rfl, HG, hs0, contG_zero _ _ _ _, Bo.refl _ _⟩
  case round =>
    clear HG hs0
    obtain ⟨m, K, ar, hm, rfl, rfl, hK0, hK1, HK, HG, HS, HC, HB⟩ := hrel
    by_cases k1 : m < len
    · have hsz := HS.out
      have HC1 : Hid (ContG 5 VD.cells (mkL mkV 5 k0 len) (putl ar (m * 5) (mkV K).cells) (m + 1)) := contG_step (len := N) VD.len HC.out (by rw [HK.out]; exact mkL_get _ _ _ _ _ k1) HS.out (by omega)
      have HS1 : Hid ((putl ar (m * 5) (mkV K).cells).size = N * 5) := by show _ = _; rw [putl_size]; exact HS.out
      clear HC
      obtain ⟨y0, e0⟩ : ∃ y, wr.cell? ⟨g, m * 5, none⟩ = some y := ⟨_, (blk_cell HG.out (m * 5)).trans (Array.getElem?_eq_getElem (by omega))⟩
      obtain ⟨y1, e1⟩ : ∃ y, wr.cell? ⟨g, m * 5 + 1, none⟩ = some y := ⟨_, (blk_cell HG.out (m * 5 + 1)).trans (Array.getElem?_eq_getElem (by omega))⟩
      obtain ⟨y2, e2⟩ : ∃ y, wr.cell? ⟨g, m * 5 + 2, none⟩ = some y := ⟨_, (blk_cell HG.out (m * 5 + 2)).trans (Array.getElem?_eq_getElem (by omega))⟩
      have z := blk_frozen HG.out
      have HM : Hid (∀ W, Calls Tryz.prog 69 #[.int .i64 ((K : Int) + 1 + 1 + 1)] W fun e w' => e = .returned (.string (mtx (K + 3))) ∧ Below W.heap.size W w') := fun W => mtx_at (K + 3) _ (by omega) W (by omega) (by omega)
      have HGA : Hid _ := blk_set (blk_set (blk_set (HG.out) (m * 5) (.int .i64 (K : Int))) (m * 5 + 1) (.int .i64 ((K : Int) + 1))) (m * 5 + 2) (.float .f64 (floatOfInt .f64 ((K : Int) + 1 + 1)))
      have HBA : Hid _ := (((HB.out).set (m * 5) (.int .i64 (K : Int))).set (m * 5 + 1) (.int .i64 ((K : Int) + 1))).set (m * 5 + 2) (.float .f64 (floatOfInt .f64 ((K : Int) + 1 + 1)))
      go_wp2_with fail
      refine (HM.out _).mono ?_
      rintro e w1 ⟨rfl, hx⟩
      have HG1 : Hid _ := blk_later hx HGA.out
      have HB1 : Hid _ := HBA.out.trans (Bo.of_below hx)
      clear hx HGA HBA HG HB e0 e1 e2 z
      obtain ⟨y3, e3⟩ : ∃ y, w1.cell? ⟨g, m * 5 + 3, none⟩ = some y := ⟨_, (blk_cell HG1.out (m * 5 + 3)).trans (Array.getElem?_eq_getElem (by first | omega | (simp only [Array.size_setIfInBounds]; omega)))⟩
      obtain ⟨y4, e4⟩ : ∃ y, w1.cell? ⟨g, m * 5 + 4, none⟩ = some y := ⟨_, (blk_cell HG1.out (m * 5 + 4)).trans (Array.getElem?_eq_getElem (by first | omega | (simp only [Array.size_setIfInBounds]; omega)))⟩
      have z1 := blk_frozen HG1.out
      have HG9 : Hid _ := blk_set (blk_set (HG1.out) (m * 5 + 3) (.string (mtx (K + 3)))) (m * 5 + 4) (.int .i64 ((K : Int) + 1 + 1 + 1 + 1))
      have HB9 : Hid _ := ((HB1.out).set (m * 5 + 3) (.string (mtx (K + 3)))).set (m * 5 + 4) (.int .i64 ((K : Int) + 1 + 1 + 1 + 1))
      go_wp2_with fail
      go_roundw
      case rel => exact ⟨m + 1, K + 5, putl ar (m * 5) (mkV K).cells, by omega, by go_num, by congr 1 <;> omega, by omega, by have := HK.out; omega, by have := HK.out; show K + 5 = _; omega, HG9, HS1, HC1, HB9⟩
      case measure => simp [intOf]; omega
    · have hml : m = len := by omega
      have HR : Hid ((K : Int) = ((k0 + 5 * len : Nat) : Int)) := by have := HK.out; show _ = _; rw [this, hml]
      clear HK
      go_wp2_with fail
      go_ret
      refine ⟨by show Ending.returned (.int .i64 (K : Int)) = _; rw [HR.out], HB.out, ar, HG.out, HS.out, by rw [mkL_len]; exact hs, ?_⟩
      rw [mkL_len, ← hml]
      have := HC.out
      rw [← hml] at this
      exact this

set_option maxRecDepth 20000 in
set_option maxHeartbeats 8000000 in
theorem mkI_row (g len cap N k0 : Nat) (T : TypeId) (w : World) (hg : ∃ ar, w.heap[g]? = some (.cells ar T) ∧ ar.size = N * 5) (hs : len ≤ N) (hlen : len ≤ 1048576) (h0 : 0 < k0) (hk : k0 ≤ 30000000000000) :
    Calls Tryz.prog 72 #[.slice (some ⟨g, 0, none⟩) len cap, .int .i64 (k0 : Int)] w fun e w' => e = .returned (.int .i64 ((k0 + 5 * len : Nat) : Int)) ∧ Bo (some ⟨g, 0, none⟩) w w' ∧ RowC w' g N T 5 ID.cells (mkL mkI 5 k0 len) := by
  obtain ⟨ar0, ha0, hs0⟩ := hg
  have HG : Hid (w.heap[g]? = some (.cells ar0 T)) := ha0
  clear ha0
  go_enter Tryz.func72, Tryz.ntmps72
  go_wp2_with fail
  go_loopw [1, 5] (fun kk ii wr => ∃ (m K : Nat) (ar : Array Value), m ≤ len ∧ ii = .int .i64 m ∧ kk = .int .i64 (K : Int) ∧ 0 < K ∧ K ≤ 40000000000000 ∧ Hid (K = k0 + 5 * m) ∧ Hid (wr.heap[g]? = some (.cells ar T)) ∧ Hid (ar.size = N * 5) ∧ Hid (ContG 5 ID.cells (mkL mkI 5 k0 len) ar m) ∧ Hid (Bo (some ⟨g, 0, none⟩) w wr)) (fun _ ii _ => len - (intOf ii).toNat)
  case atStart => exact ⟨0, k0, ar0, Nat.zero_le _, rfl, rfl, h0, by omega, rfl, HG, hs0, contG_zero _ _ _ _, Bo.refl _ _⟩
  case round =>
    clear HG hs0
    obtain ⟨m, K, ar, hm, rfl, rfl, hK0, hK1, HK, HG, HS, HC, HB⟩ := hrel
    by_cases k1 : m < len
    · have hsz := HS.out
      have HC1 : Hid (ContG 5 ID.cells (mkL mkI 5 k0 len) (putl ar (m * 5) (mkI K).cells) (m + 1)) := contG_step (len := N) ID.len HC.out (by rw [HK.out]; exact mkL_get _ _ _ _ _ k1) HS.out (by omega)
      have HS1 : Hid ((putl ar (m * 5) (mkI K).cells).size = N * 5) := by show _ = _; rw [putl_size]; exact HS.out
      clear HC
      obtain ⟨y0, e0⟩ : ∃ y, wr.cell? ⟨g, m * 5, none⟩ = some y := ⟨_, (blk_cell HG.out (m * 5)).trans (Array.getElem?_eq_getElem (by omega))⟩
      obtain ⟨y1, e1⟩ : ∃ y, wr.cell? ⟨g, m * 5 + 1, none⟩ = some y := ⟨_, (blk_cell HG.out (m * 5 + 1)).trans (Array.getElem?_eq_getElem (by omega))⟩
      obtain ⟨y2, e2⟩ : ∃ y, wr.cell? ⟨g, m * 5 + 2, none⟩ = some y := ⟨_, (blk_cell HG.out (m * 5 + 2)).trans (Array.getElem?_eq_getElem (by omega))⟩
      obtain ⟨y3, e3⟩ : ∃ y, wr.cell? ⟨g, m * 5 + 3, none⟩ = some y := ⟨_, (blk_cell HG.out (m * 5 + 3)).trans (Array.getElem?_eq_getElem (by omega))⟩
      obtain ⟨y4, e4⟩ : ∃ y, wr.cell? ⟨g, m * 5 + 4, none⟩ = some y := ⟨_, (blk_cell HG.out (m * 5 + 4)).trans (Array.getElem?_eq_getElem (by omega))⟩
      have z := blk_frozen HG.out
      have HG9 := blk_set (blk_set (blk_set (blk_set (blk_set (HG.out) (m * 5) (.int .i64 (K : Int))) (m * 5 + 1) (.int .i64 ((K : Int) + 1))) (m * 5 + 2) (.int .i64 ((K : Int) + 1 + 1))) (m * 5 + 3) (.int .i64 ((K : Int) + 1 + 1 + 1))) (m * 5 + 4) (.int .i64 ((K : Int) + 1 + 1 + 1 + 1))
      have HGX : Hid _ := HG9
      clear HG9
      have HG9 := HGX
      have HB9 : Hid _ := (((((HB.out).set (m * 5) (.int .i64 (K : Int))).set (m * 5 + 1) (.int .i64 ((K : Int) + 1))).set (m * 5 + 2) (.int .i64 ((K : Int) + 1 + 1))).set (m * 5 + 3) (.int .i64 ((K : Int) + 1 + 1 + 1))).set (m * 5 + 4) (.int .i64 ((K : Int) + 1 + 1 + 1 + 1))
      go_wp2_with fail
      go_roundw
      case rel => exact ⟨m + 1, K + 5, putl ar (m * 5) (mkI K).cells, by omega, by go_num, by congr 1 <;> omega, by omega, by have := HK.out; omega, by have := HK.out; show K + 5 = _; omega, HG9, HS1, HC1, HB9⟩
      case measure => simp [intOf]; omega
    · have hml : m = len := by omega
      have HR : Hid ((K : Int) = ((k0 + 5 * len : Nat) : Int)) := by have := HK.out; show _ = _; rw [this, hml]
      clear HK
      go_wp2_with fail
      go_ret
      refine ⟨by show Ending.returned (.int .i64 (K : Int)) = _; rw [HR.out], HB.out, ar, HG.out, HS.out, by rw [mkL_len]; exact hs, ?_⟩
      rw [mkL_len, ← hml]
      have := HC.out
      rw [← hml] at this
      exact this

set_option maxRecDepth 20000 in
set_option maxHeartbeats 8000000 in
theorem mkN_row (g len cap N k0 : Nat) (T : TypeId) (w : World) (hg : ∃ ar, w.heap[g]? = some (.cells ar T) ∧ ar.size = N * 4) (hs : len ≤ N) (hlen : len ≤ 1048576) (h0 : 0 < k0) (hk : k0 ≤ 30000000000000) :
    Calls Tryz.prog 73 #[.slice (some ⟨g, 0, none⟩) len cap, .int .i64 (k0 : Int)] w fun e w' => e = .returned (.int .i64 ((k0 + 4 * len : Nat) : Int)) ∧ Bo (some ⟨g, 0, none⟩) w w' ∧ RowC w' g N T 4 ND.cells (mkL mkN 4 k0 len) := by
  obtain ⟨ar0, ha0, hs0⟩ := hg
  have HG : Hid (w.heap[g]? = some (.cells ar0 T)) := ha0
  clear ha0
  go_enter Tryz.func73, Tryz.ntmps73
  go_wp2_with fail
  go_loopw [1, 5] (fun kk ii wr => ∃ (m K : Nat) (ar : Array Value), m ≤ len ∧ ii = .int .i64 m ∧ kk = .int .i64 (K : Int) ∧ 0 < K ∧ K ≤ 40000000000000 ∧ Hid (K = k0 + 4 * m) ∧ Hid (wr.heap[g]? = some (.cells ar T)) ∧ Hid (ar.size = N * 4) ∧ Hid (ContG 4 ND.cells (mkL mkN 4 k0 len) ar m) ∧ Hid (Bo (some ⟨g, 0, none⟩) w wr)) (fun _ ii _ => len - (intOf ii).toNat)
  case atStart => exact ⟨0, k0, ar0, Nat.zero_le _, rfl, rfl, h0, by omega, rfl, HG, hs0, contG_zero _ _ _ _, Bo.refl _ _⟩
  case round =>
    clear HG hs0
    obtain ⟨m, K, ar, hm, rfl, rfl, hK0, hK1, HK, HG, HS, HC, HB⟩ := hrel
    by_cases k1 : m < len
    · have hsz := HS.out
      have HC1 : Hid (ContG 4 ND.cells (mkL mkN 4 k0 len) (putl ar (m * 4) (mkN K).cells) (m + 1)) := contG_step (len := N) ND.len HC.out (by rw [HK.out]; exact mkL_get _ _ _ _ _ k1) HS.out (by omega)
      have HS1 : Hid ((putl ar (m * 4) (mkN K).cells).size = N * 4) := by show _ = _; rw [putl_size]; exact HS.out
      clear HC
      have HM : Hid (∀ W, Calls Tryz.prog 69 #[.int .i64 ((K : Int))] W fun e w' => e = .returned (.string (mtx (K))) ∧ Below W.heap.size W w') := fun W => mtx_at (K) _ (by omega) W (by omega) (by omega)
      have HGA : Hid _ := HG.out
      have HBA : Hid _ := HB.out
      go_wp2_with fail
      refine (HM.out _).mono ?_
      rintro e w1 ⟨rfl, hx⟩
      have HG1 : Hid _ := blk_later hx HGA.out
      have HB1 : Hid _ := HBA.out.trans (Bo.of_below hx)
      clear hx HGA HBA HG HB  
      obtain ⟨y0, e0⟩ : ∃ y, w1.cell? ⟨g, m * 4, none⟩ = some y := ⟨_, (blk_cell HG1.out (m * 4)).trans (Array.getElem?_eq_getElem (by first | omega | (simp only [Array.size_setIfInBounds]; omega)))⟩
      obtain ⟨y1, e1⟩ : ∃ y, w1.cell? ⟨g, m * 4 + 1, none⟩ = some y := ⟨_, (blk_cell HG1.out (m * 4 + 1)).trans (Array.getElem?_eq_getElem (by first | omega | (simp only [Array.size_setIfInBounds]; omega)))⟩
      obtain ⟨y2, e2⟩ : ∃ y, w1.cell? ⟨g, m * 4 + 2, none⟩ = some y := ⟨_, (blk_cell HG1.out (m * 4 + 2)).trans (Array.getElem?_eq_getElem (by first | omega | (simp only [Array.size_setIfInBounds]; omega)))⟩
      obtain ⟨y3, e3⟩ : ∃ y, w1.cell? ⟨g, m * 4 + 3, none⟩ = some y := ⟨_, (blk_cell HG1.out (m * 4 + 3)).trans (Array.getElem?_eq_getElem (by first | omega | (simp only [Array.size_setIfInBounds]; omega)))⟩
      have z1 := blk_frozen HG1.out
      have HG9 : Hid _ := blk_set (blk_set (blk_set (blk_set (HG1.out) (m * 4) (.string (mtx K))) (m * 4 + 1) (.int .i64 ((K : Int) + 1))) (m * 4 + 2) (.int .i64 ((K : Int) + 1 + 1))) (m * 4 + 3) (.int .i64 ((K : Int) + 1 + 1 + 1))
      have HB9 : Hid _ := ((((HB1.out).set (m * 4) (.string (mtx K))).set (m * 4 + 1) (.int .i64 ((K : Int) + 1))).set (m * 4 + 2) (.int .i64 ((K : Int) + 1 + 1))).set (m * 4 + 3) (.int .i64 ((K : Int) + 1 + 1 + 1))
      go_wp2_with fail
      go_roundw
      case rel => exact ⟨m + 1, K + 4, putl ar (m * 4) (mkN K).cells, by omega, by go_num, by congr 1 <;> omega, by omega, by have := HK.out; omega, by have := HK.out; show K + 4 = _; omega, HG9, HS1, HC1, HB9⟩
      case measure => simp [intOf]; omega
    · have hml : m = len := by omega
      have HR : Hid ((K : Int) = ((k0 + 4 * len : Nat) : Int)) := by have := HK.out; show _ = _; rw [this, hml]
      clear HK
      go_wp2_with fail
      go_ret
      refine ⟨by show Ending.returned (.int .i64 (K : Int)) = _; rw [HR.out], HB.out, ar, HG.out, HS.out, by rw [mkL_len]; exact hs, ?_⟩
      rw [mkL_len, ← hml]
      have := HC.out
      rw [← hml] at this
      exact this
end Go.Proofs.YtfkeklndcjkgcaaGreatDoor

/-
  OWN WORK. Lists of a code: held against their marks.
-/
namespace Go.Proofs.YtfkeklndcjkgcaaGreatDoor
open Go.RowKit
attribute [local go_sem] run_store_float
set_option linter.unusedVariables false
set_option linter.unusedSimpArgs false

set_option maxRecDepth 20000 in
set_option maxHeartbeats 8000000 in
theorem hdU_any (a : Option Addr) (len cap k0 : Nat) (w : World) (hp : SlA w 2 UD.cells a (mkL mkU 2 k0 len)) (hlen : len ≤ 1048576) (h0 : 0 < k0) (hk : k0 ≤ 30000000000000) :
    Calls Tryz.prog 78 #[.slice a len cap, .int .i64 (k0 : Int)] w fun e w' => e = .returned (.int .i64 ((k0 + 2 * len : Nat) : Int)) ∧ Below w.heap.size w w' := by
  have HP : Hid (SlA w 2 UD.cells a (mkL mkU 2 k0 len)) := hp
  clear hp
  go_enter Tryz.func78, Tryz.ntmps78
  go_wp2_with fail
  go_loopw [1, 5] (fun kk ii wr => ∃ (m K : Nat), m ≤ len ∧ ii = .int .i64 m ∧ kk = .int .i64 (K : Int) ∧ 0 < K ∧ K ≤ 40000000000000 ∧ Hid (K = k0 + 2 * m) ∧ Hid (Below w.heap.size w wr)) (fun _ ii _ => len - (intOf ii).toNat)
  case atStart => exact ⟨0, k0, Nat.zero_le _, rfl, rfl, h0, by omega, rfl, Below.refl _ _⟩
  case round =>
    obtain ⟨m, K, hm, rfl, rfl, hK0, hKb, HK, HB⟩ := hrel
    by_cases k1 : m < len
    · have hpm : (mkL mkU 2 k0 len)[m]? = some (mkU K) := by rw [HK.out]; exact mkL_get _ _ _ _ _ k1
      obtain ⟨b, off, rfl, hb, hc⟩ := HP.out m _ hpm
      have c0 : wr.cell? ⟨b, off + m * 2, none⟩ = some (.bool (decide ((K : Int) % 3 = 0))) := cell_later HB.out (hc 0 _ rfl)
      have c1 : wr.cell? ⟨b, off + m * 2 + 1, none⟩ = some (.int .i64 ((K : Int) + 1)) := cell_later HB.out (hc 1 _ rfl)
      have hq : ((K : Int) % 3 == 0) = decide ((K : Int) % 3 = 0) := rfl
      clear hpm hb hc
      go_wp2_with fail
      go_roundw
      case rel => exact ⟨m + 1, K + 2, by omega, by go_num, by congr 1 <;> omega, by omega, by have := HK.out; omega, by have := HK.out; show K + 2 = _; omega, HB⟩
      case measure => simp [intOf]; omega
    · have hml : m = len := by omega
      have HE : Hid ((K : Int) = ((k0 + 2 * len : Nat) : Int)) := by have := HK.out; show (K : Int) = _; rw [this, hml]
      clear HK
      go_wp2_with fail
      go_ret
      exact ⟨by show Ending.returned (.int .i64 (K : Int)) = _; rw [HE.out], HB.out⟩

set_option maxRecDepth 20000 in
set_option maxHeartbeats 8000000 in
theorem hdV_any (a : Option Addr) (len cap k0 : Nat) (w : World) (hp : SlA w 5 VD.cells a (mkL mkV 5 k0 len)) (hlen : len ≤ 1048576) (h0 : 0 < k0) (hk : k0 ≤ 30000000000000) :
    Calls Tryz.prog 79 #[.slice a len cap, .int .i64 (k0 : Int)] w fun e w' => e = .returned (.int .i64 ((k0 + 5 * len : Nat) : Int)) ∧ Below w.heap.size w w' := by
  have HP : Hid (SlA w 5 VD.cells a (mkL mkV 5 k0 len)) := hp
  clear hp
  go_enter Tryz.func79, Tryz.ntmps79
  go_wp2_with fail
  go_loopw [1, 5] (fun kk ii wr => ∃ (m K : Nat), m ≤ len ∧ ii = .int .i64 m ∧ kk = .int .i64 (K : Int) ∧ 0 < K ∧ K ≤ 40000000000000 ∧ Hid (K = k0 + 5 * m) ∧ Hid (Below w.heap.size w wr)) (fun _ ii _ => len - (intOf ii).toNat)
  case atStart => exact ⟨0, k0, Nat.zero_le _, rfl, rfl, h0, by omega, rfl, Below.refl _ _⟩
  case round =>
    obtain ⟨m, K, hm, rfl, rfl, hK0, hKb, HK, HB⟩ := hrel
    by_cases k1 : m < len
    · have hpm : (mkL mkV 5 k0 len)[m]? = some (mkV K) := by rw [HK.out]; exact mkL_get _ _ _ _ _ k1
      obtain ⟨b, off, rfl, hb, hc⟩ := HP.out m _ hpm
      have c0 : wr.cell? ⟨b, off + m * 5, none⟩ = some (.int .i64 (K : Int)) := cell_later HB.out (hc 0 _ rfl)
      have c1 : wr.cell? ⟨b, off + m * 5 + 1, none⟩ = some (.int .i64 ((K : Int) + 1)) := cell_later HB.out (hc 1 _ rfl)
      have c2 : wr.cell? ⟨b, off + m * 5 + 2, none⟩ = some (.float .f64 (floatOfInt .f64 ((K : Int) + 1 + 1))) := cell_later HB.out (hc 2 _ rfl)
      have c3 : wr.cell? ⟨b, off + m * 5 + 3, none⟩ = some (.string (mtx (K + 3))) := cell_later HB.out (hc 3 _ rfl)
      have c4 : wr.cell? ⟨b, off + m * 5 + 4, none⟩ = some (.int .i64 ((K : Int) + 1 + 1 + 1 + 1)) := cell_later HB.out (hc 4 _ rfl)
      have f2 : FloatKind.f64.format.order (floatOfInt .f64 ((K : Int) + 1 + 1)) (floatOfInt .f64 ((K : Int) + 1 + 1)) = some .eq := by
        have := foi_self (K + 2) (by omega) (by omega); rw [show ((K + 2 : Nat) : Int) = (K : Int) + 1 + 1 by omega] at this; exact this
      clear hpm hb hc
      have HM : Hid (∀ W, Calls Tryz.prog 69 #[.int .i64 ((K : Int) + 1 + 1 + 1)] W fun e w' => e = .returned (.string (mtx (K + 3))) ∧ Below W.heap.size W w') := fun W => mtx_at (K + 3) _ (by omega) W (by omega) (by omega)
      go_wp2_with fail
      have e3 := lat_cell c3
      haveI := lat_some wr
      refine wp_region_lat (by kernel_rfl) (by kernel_rfl) ?_
      repeat (go_big_quiet_step ((go_at_call 69; refine lat_calls (HM.out _))))
      refine wpQuiet_nil ?_
      rintro _ ⟨nq, rfl⟩
      have HB2 : Hid (Below w.heap.size w nq.wd) := HB.out.trans (nq.below.mono HB.out.size)
      replace c4 := lat_cell c4 nq
      clear e3 HB c0 c1 c2 c3
      obtain ⟨w2, hw2⟩ : ∃ w2, w2 = nq.wd := ⟨_, rfl⟩
      rw [← hw2] at HB2 c4 ⊢
      clear hw2 nq
      go_wp2_with fail
      go_roundw
      case rel => exact ⟨m + 1, K + 5, by omega, by go_num, by congr 1 <;> omega, by omega, by have := HK.out; omega, by have := HK.out; show K + 5 = _; omega, HB2⟩
      case measure => simp [intOf]; omega
    · have hml : m = len := by omega
      have HE : Hid ((K : Int) = ((k0 + 5 * len : Nat) : Int)) := by have := HK.out; show (K : Int) = _; rw [this, hml]
      clear HK
      go_wp2_with fail
      go_ret
      exact ⟨by show Ending.returned (.int .i64 (K : Int)) = _; rw [HE.out], HB.out⟩

set_option maxRecDepth 20000 in
set_option maxHeartbeats 8000000 in
theorem hdI_any (a : Option Addr) (len cap k0 : Nat) (w : World) (hp : SlA w 5 ID.cells a (mkL mkI 5 k0 len)) (hlen : len ≤ 1048576) (h0 : 0 < k0) (hk : k0 ≤ 30000000000000) :
    Calls Tryz.prog 80 #[.slice a len cap, .int .i64 (k0 : Int)] w fun e w' => e = .returned (.int .i64 ((k0 + 5 * len : Nat) : Int)) ∧ Below w.heap.size w w' := by
  have HP : Hid (SlA w 5 ID.cells a (mkL mkI 5 k0 len)) := hp
  clear hp
  go_enter Tryz.func80, Tryz.ntmps80
  go_wp2_with fail
  go_loopw [1, 5] (fun kk ii wr => ∃ (m K : Nat), m ≤ len ∧ ii = .int .i64 m ∧ kk = .int .i64 (K : Int) ∧ 0 < K ∧ K ≤ 40000000000000 ∧ Hid (K = k0 + 5 * m) ∧ Hid (Below w.heap.size w wr)) (fun _ ii _ => len - (intOf ii).toNat)
  case atStart => exact ⟨0, k0, Nat.zero_le _, rfl, rfl, h0, by omega, rfl, Below.refl _ _⟩
  case round =>
    obtain ⟨m, K, hm, rfl, rfl, hK0, hKb, HK, HB⟩ := hrel
    by_cases k1 : m < len
    · have hpm : (mkL mkI 5 k0 len)[m]? = some (mkI K) := by rw [HK.out]; exact mkL_get _ _ _ _ _ k1
      obtain ⟨b, off, rfl, hb, hc⟩ := HP.out m _ hpm
      have c0 : wr.cell? ⟨b, off + m * 5, none⟩ = some (.int .i64 (K : Int)) := cell_later HB.out (hc 0 _ rfl)
      have c1 : wr.cell? ⟨b, off + m * 5 + 1, none⟩ = some (.int .i64 ((K : Int) + 1)) := cell_later HB.out (hc 1 _ rfl)
      have c2 : wr.cell? ⟨b, off + m * 5 + 2, none⟩ = some (.int .i64 ((K : Int) + 1 + 1)) := cell_later HB.out (hc 2 _ rfl)
      have c3 : wr.cell? ⟨b, off + m * 5 + 3, none⟩ = some (.int .i64 ((K : Int) + 1 + 1 + 1)) := cell_later HB.out (hc 3 _ rfl)
      have c4 : wr.cell? ⟨b, off + m * 5 + 4, none⟩ = some (.int .i64 ((K : Int) + 1 + 1 + 1 + 1)) := cell_later HB.out (hc 4 _ rfl)
      clear hpm hb hc
      go_wp2_with fail
      go_roundw
      case rel => exact ⟨m + 1, K + 5, by omega, by go_num, by congr 1 <;> omega, by omega, by have := HK.out; omega, by have := HK.out; show K + 5 = _; omega, HB⟩
      case measure => simp [intOf]; omega
    · have hml : m = len := by omega
      have HE : Hid ((K : Int) = ((k0 + 5 * len : Nat) : Int)) := by have := HK.out; show (K : Int) = _; rw [this, hml]
      clear HK
      go_wp2_with fail
      go_ret
      exact ⟨by show Ending.returned (.int .i64 (K : Int)) = _; rw [HE.out], HB.out⟩

set_option maxRecDepth 20000 in
set_option maxHeartbeats 8000000 in
theorem hdN_any (a : Option Addr) (len cap k0 : Nat) (w : World) (hp : SlA w 4 ND.cells a (mkL mkN 4 k0 len)) (hlen : len ≤ 1048576) (h0 : 0 < k0) (hk : k0 ≤ 30000000000000) :
    Calls Tryz.prog 81 #[.slice a len cap, .int .i64 (k0 : Int)] w fun e w' => e = .returned (.int .i64 ((k0 + 4 * len : Nat) : Int)) ∧ Below w.heap.size w w' := by
  have HP : Hid (SlA w 4 ND.cells a (mkL mkN 4 k0 len)) := hp
  clear hp
  go_enter Tryz.func81, Tryz.ntmps81
  go_wp2_with fail
  go_loopw [1, 5] (fun kk ii wr => ∃ (m K : Nat), m ≤ len ∧ ii = .int .i64 m ∧ kk = .int .i64 (K : Int) ∧ 0 < K ∧ K ≤ 40000000000000 ∧ Hid (K = k0 + 4 * m) ∧ Hid (Below w.heap.size w wr)) (fun _ ii _ => len - (intOf ii).toNat)
  case atStart => exact ⟨0, k0, Nat.zero_le _, rfl, rfl, h0, by omega, rfl, Below.refl _ _⟩
  case round =>
    obtain ⟨m, K, hm, rfl, rfl, hK0, hKb, HK, HB⟩ := hrel
    by_cases k1 : m < len
    · have hpm : (mkL mkN 4 k0 len)[m]? = some (mkN K) := by rw [HK.out]; exact mkL_get _ _ _ _ _ k1
      obtain ⟨b, off, rfl, hb, hc⟩ := HP.out m _ hpm
      have c0 : wr.cell? ⟨b, off + m * 4, none⟩ = some (.string (mtx K)) := cell_later HB.out (hc 0 _ rfl)
      have c1 : wr.cell? ⟨b, off + m * 4 + 1, none⟩ = some (.int .i64 ((K : Int) + 1)) := cell_later HB.out (hc 1 _ rfl)
      have c2 : wr.cell? ⟨b, off + m * 4 + 2, none⟩ = some (.int .i64 ((K : Int) + 1 + 1)) := cell_later HB.out (hc 2 _ rfl)
      have c3 : wr.cell? ⟨b, off + m * 4 + 3, none⟩ = some (.int .i64 ((K : Int) + 1 + 1 + 1)) := cell_later HB.out (hc 3 _ rfl)
      clear hpm hb hc
      have HM : Hid (∀ W, Calls Tryz.prog 69 #[.int .i64 ((K : Int))] W fun e w' => e = .returned (.string (mtx (K))) ∧ Below W.heap.size W w') := fun W => mtx_at (K) _ (by omega) W (by omega) (by omega)
      go_wp2_with fail
      have e3 := lat_cell c0
      haveI := lat_some wr
      refine wp_region_lat (by kernel_rfl) (by kernel_rfl) ?_
      repeat (go_big_quiet_step ((go_at_call 69; refine lat_calls (HM.out _))))
      refine wpQuiet_nil ?_
      rintro _ ⟨nq, rfl⟩
      have HB2 : Hid (Below w.heap.size w nq.wd) := HB.out.trans (nq.below.mono HB.out.size)
      replace c1 := lat_cell c1 nq
      replace c2 := lat_cell c2 nq
      replace c3 := lat_cell c3 nq
      clear e3 HB c0
      obtain ⟨w2, hw2⟩ : ∃ w2, w2 = nq.wd := ⟨_, rfl⟩
      rw [← hw2] at HB2 c1 c2 c3 ⊢
      clear hw2 nq
      go_wp2_with fail
      go_roundw
      case rel => exact ⟨m + 1, K + 4, by omega, by go_num, by congr 1 <;> omega, by omega, by have := HK.out; omega, by have := HK.out; show K + 4 = _; omega, HB2⟩
      case measure => simp [intOf]; omega
    · have hml : m = len := by omega
      have HE : Hid ((K : Int) = ((k0 + 4 * len : Nat) : Int)) := by have := HK.out; show (K : Int) = _; rw [this, hml]
      clear HK
      go_wp2_with fail
      go_ret
      exact ⟨by show Ending.returned (.int .i64 (K : Int)) = _; rw [HE.out], HB.out⟩
end Go.Proofs.YtfkeklndcjkgcaaGreatDoor

/-
  OWN WORK. Rows of bytes in the law: copied, marked.
-/
namespace Go.Proofs.YtfkeklndcjkgcaaGreatDoor
open Go.RowKit
attribute [local go_sem] run_store_float
set_option linter.unusedVariables false
set_option linter.unusedSimpArgs false

theorem byteC_len (x : UInt8) : (byteC x).length = 1 := rfl
theorem byte_cell {w : World} {a : Option Addr} {xs : List UInt8} (h : SlA w 1 byteC a xs) {m : Nat} {x : UInt8} (hx : xs[m]? = some x) : ∃ b off, a = some ⟨b, off, none⟩ ∧ b < w.heap.size ∧ w.cell? ⟨b, off + m, none⟩ = some (.int .u8 (x.toNat : Int)) := by
  obtain ⟨b, off, h1, h2, h3⟩ := h m x hx
  exact ⟨b, off, h1, h2, by simpa using h3 0 _ rfl⟩

set_option maxRecDepth 20000 in
set_option maxHeartbeats 1000000 in
theorem tob_any (a : Option Addr) (len cap : Nat) (xs : List UInt8) (w : World) (hl : xs.length = len) (hp : SlA w 1 byteC a xs) (hlen : len ≤ 1048576) :
    Calls Tryz.prog 18 #[.slice a len cap] w fun e w' => e = .returned (.slice (some ⟨w.heap.size, 0, none⟩) len len) ∧ Below w.heap.size w w' ∧ RowG w' w.heap.size 1 5 byteC xs := by
  obtain ⟨arr, hsz, hmk⟩ := make_of (P := Tryz.prog) 33 5 1 1 len Tryz.underlying33 (by kernel_rfl) (by omega) hlen w
  have HP : Hid (SlA w 1 byteC a xs) := hp
  have HL : Hid (xs.length = len) := hl
  clear hp hl
  go_enter Tryz.func18, Tryz.ntmps18
  go_wp2_with fail
  clear hmk
  go_loopw [4] (fun i wr => ∃ (m : Nat) (ar : Array Value), m ≤ len ∧ i = .int .i64 m ∧ Below w.heap.size w wr ∧ Hid (wr.heap[w.heap.size]? = some (.cells ar 5)) ∧ ar.size = len * 1 ∧ Hid (ContG 1 byteC xs ar m)) (fun i _ => len - (intOf i).toNat)
  case atStart => exact ⟨0, arr, Nat.zero_le _, rfl, bw1 _ _, blk_new _ _, hsz, contG_zero _ _ _ _⟩
  case round =>
    obtain ⟨m, ar, hm, rfl, hB, hA, hS, hC⟩ := hrel
    by_cases k1 : m < len
    · obtain ⟨x, hx⟩ : ∃ x, xs[m]? = some x := ⟨xs[m]'(by rw [HL.out]; exact k1), by simp⟩
      obtain ⟨b, off, rfl, hb, hc⟩ := byte_cell HP.out hx
      have c0 := cell_later hB hc
      have HC : Hid (ContG 1 byteC xs (putl ar (m * 1) (byteC x)) (m + 1)) := contG_step byteC_len hC.out hx hS k1
      have hA1 := hA.out
      clear hx hC hc hb
      obtain ⟨y0, e0⟩ : ∃ y, wr.cell? ⟨w.heap.size, m, none⟩ = some y := ⟨ar[m]'(by omega), by rw [blk_cell hA1]; simp⟩
      have z := blk_frozen hA1 m
      have HA1 : Hid (wr.heap[w.heap.size]? = some (.cells ar 5)) := hA1
      clear hA hA1
      go_wp2_with fail
      clear e0 z
      go_roundw
      case rel => exact ⟨m + 1, putl ar (m * 1) (byteC x), by omega, by go_num, hB.setCell (p := ⟨w.heap.size, m, none⟩) (Nat.le_refl _) (.int .u8 (x.toNat : Int)), by rw [Nat.mul_one]; exact blk_set HA1.out m (.int .u8 (x.toNat : Int)), by rw [putl_size]; exact hS, HC⟩
      case measure => simp [intOf]; omega
    · have hml : m = len := by omega
      have HC : Hid (ContG 1 byteC xs ar len) := by have := hC.out; rw [hml] at this; exact this
      clear hC hml
      go_wp2_with fail
      go_ret
      exact ⟨rfl, hB, ar, hA.out, by rw [HL.out]; exact hS, by rw [HL.out]; exact HC.out⟩

set_option maxRecDepth 20000 in
set_option maxHeartbeats 4000000 in
theorem mkb_any (g len cap : Nat) (T : TypeId) (w : World) (hg : ∃ ar, w.heap[g]? = some (.cells ar T) ∧ ar.size = len) (hlen : len ≤ 1048576) :
    Calls Tryz.prog 15 #[.slice (some ⟨g, 0, none⟩) len cap, .int .i64 1] w fun e w' => e = .returned (.int .i64 ((len + 1 : Nat) : Int)) ∧ Bo (some ⟨g, 0, none⟩) w w' := by
  obtain ⟨ar0, ha0, hs0⟩ := hg
  have HG : Hid (w.heap[g]? = some (.cells ar0 T)) := ha0
  clear ha0
  go_enter Tryz.func15, Tryz.ntmps15
  go_wp2_with fail
  go_loopw [1, 5] (fun kk ii wr => ∃ (m : Nat) (ar : Array Value), m ≤ len ∧ ii = .int .i64 m ∧ kk = .int .i64 ((m + 1 : Nat) : Int) ∧ Hid (wr.heap[g]? = some (.cells ar T)) ∧ ar.size = len ∧ Hid (Bo (some ⟨g, 0, none⟩) w wr)) (fun _ ii _ => len - (intOf ii).toNat)
  case atStart => exact ⟨0, ar0, Nat.zero_le _, rfl, rfl, HG, hs0, Bo.refl _ _⟩
  case round =>
    clear HG hs0
    obtain ⟨m, ar, hm, rfl, rfl, HG, hS, HB⟩ := hrel
    by_cases k1 : m < len
    · obtain ⟨y0, e0⟩ : ∃ y, wr.cell? ⟨g, m, none⟩ = some y := ⟨_, (blk_cell HG.out m).trans (Array.getElem?_eq_getElem (by omega))⟩
      have z := blk_frozen HG.out
      go_wp2_with fail
      go_roundw
      case rel => exact ⟨m + 1, _, by omega, by go_num, by congr 1 <;> omega, blk_set HG.out m _, by rw [Array.size_setIfInBounds]; exact hS, HB.out.set _ _⟩
      case measure => simp [intOf]; omega
    · have hml : m = len := by omega
      go_wp2_with fail
      go_ret
      exact ⟨by rw [← hml]; rfl, HB.out⟩
end Go.Proofs.YtfkeklndcjkgcaaGreatDoor
