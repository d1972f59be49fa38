/-
  OWN WORK. Tables: the laws' copy of a row of pairs.
-/
import Derived.Test.YtkipmogmejfmcaaTabTo
namespace Go.Proofs.Ytkipmogmejfmcaa
open Go.RowKit
attribute [local go_sem] run_store_float
set_option linter.unusedVariables false

theorem blk_cell {w : World} {g : Nat} {arr : Array Value} {t : TypeId} (h : w.heap[g]? = some (.cells arr t)) (j : Nat) : w.cell? ⟨g, j, none⟩ = arr[j]? := by simp [World.cell?, h]
theorem blk_frozen {w : World} {g : Nat} {arr : Array Value} {t : TypeId} (h : w.heap[g]? = some (.cells arr t)) (j : Nat) : w.frozen? ⟨g, j, none⟩ = false := by simp [World.frozen?, h]
theorem blk_set {w : World} {g : Nat} {arr : Array Value} {t : TypeId} (h : w.heap[g]? = some (.cells arr t)) (j : Nat) (v : Value) : (w.setCell ⟨g, j, none⟩ v).heap[g]? = some (.cells (arr.setIfInBounds j v) t) := by
  simp [World.setCell, Array.getElem?_modify, h]

theorem make_pairs (len : Nat) (hlen : len ≤ 1048576) (w : World) : ∃ arr : Array Value, arr.size = len * 11 ∧ (Instr.makeSlice 53 (.int .i64 (len : Int)) (.int .i64 (len : Int))).run Try.prog w = .ok (.slice (some ⟨w.heap.size, 0, none⟩) len len) (w.alloc (.cells arr 60)) := by
  have hc : (Try.prog.info? 60).map (fun i => (i.zero.isSome, i.size, i.bytes)) = some (true, 11, 104) := by kernel_rfl
  cases hi : Try.prog.info? 60 with
  | none => rw [hi] at hc; cases hc
  | some i =>
    rw [hi] at hc
    simp only [Option.map_some, Option.some.injEq, Prod.mk.injEq] at hc
    obtain ⟨h1, h2, h3⟩ := hc
    obtain ⟨z, hz⟩ := Option.isSome_iff_exists.1 h1
    have hr := run_make (P := Try.prog) w 53 60 i z Try.underlying53 hi hz .i64 .i64 (len : Int) (len : Int) (by omega) (by omega) (by rw [h3]; omega) (by omega)
    refine ⟨madeCells z.cells (len * i.size), ?_, ?_⟩
    · rw [size_madeCells, h2]
    · simpa using hr

/-- Eleven cells of a row are written. -/
def put11 (ar : Array Value) (o : Nat) (p : PD) : Array Value := (((((((((((ar.setIfInBounds (o) (.int .i64 p.key.k)).setIfInBounds (o + 1) (.int .i64 p.key.n)).setIfInBounds (o + 2) (.float .f64 p.key.f)).setIfInBounds (o + 3) (.string p.key.s)).setIfInBounds (o + 4) (.int .i64 p.key.r)).setIfInBounds (o + 5) (.int .i64 p.val.k)).setIfInBounds (o + 6) (.int .i64 p.val.n)).setIfInBounds (o + 7) (.float .f64 p.val.f)).setIfInBounds (o + 8) (.string p.val.s)).setIfInBounds (o + 9) (.int .i64 p.val.r)).setIfInBounds (o + 10) (.int .i64 p.turn))

theorem put11_size (ar : Array Value) (o : Nat) (p : PD) : (put11 ar o p).size = ar.size := by simp [put11]
theorem put11_below (ar : Array Value) (o : Nat) (p : PD) (k : Nat) (h : k < o) : (put11 ar o p)[k]? = ar[k]? := by
  unfold put11
  simp only [Array.getElem?_setIfInBounds]
  repeat rw [if_neg (by omega)]
theorem cells_len (p : PD) : p.cells.length = 11 := rfl
theorem put11_at (ar : Array Value) (o : Nat) (p : PD) (h : o + 11 ≤ ar.size) (j : Nat) (hj : j < 11) : (put11 ar o p)[o + j]? = p.cells[j]? := by
  unfold put11
  have hs : ∀ k, k < 11 → o + k < ar.size := fun k hk => by omega
  match j, hj with
  | 0, _ => simp [Array.getElem?_setIfInBounds, PD.cells, VD.cells]; omega
  | 1, _ => simp [Array.getElem?_setIfInBounds, PD.cells, VD.cells]; omega
  | 2, _ => simp [Array.getElem?_setIfInBounds, PD.cells, VD.cells]; omega
  | 3, _ => simp [Array.getElem?_setIfInBounds, PD.cells, VD.cells]; omega
  | 4, _ => simp [Array.getElem?_setIfInBounds, PD.cells, VD.cells]; omega
  | 5, _ => simp [Array.getElem?_setIfInBounds, PD.cells, VD.cells]; omega
  | 6, _ => simp [Array.getElem?_setIfInBounds, PD.cells, VD.cells]; omega
  | 7, _ => simp [Array.getElem?_setIfInBounds, PD.cells, VD.cells]; omega
  | 8, _ => simp [Array.getElem?_setIfInBounds, PD.cells, VD.cells]; omega
  | 9, _ => simp [Array.getElem?_setIfInBounds, PD.cells, VD.cells]; omega
  | 10, _ => simp [Array.getElem?_setIfInBounds, PD.cells, VD.cells]; omega

/-- The first m pairs lie in the row. -/
def Cont (ps : List PD) (ar : Array Value) (m : Nat) : Prop := ∀ i q, i < m → ps[i]? = some q → ∀ j v, q.cells[j]? = some v → ar[i * 11 + j]? = some v

theorem cont_step {ps : List PD} {ar : Array Value} {m len : Nat} {p : PD} (h : Cont ps ar m) (hp : ps[m]? = some p) (hs : ar.size = len * 11) (hm : m < len) : Cont ps (put11 ar (m * 11) p) (m + 1) := by
  intro i q hi hq j v hv
  have hj : j < 11 := by
    have := (List.getElem?_eq_some_iff.1 hv).1
    rw [cells_len] at this; exact this
  by_cases he : i = m
  · subst he
    rw [hp] at hq
    cases hq
    rw [put11_at ar _ p (by omega) j hj]; exact hv
  · rw [put11_below ar _ p _ (by omega)]
    exact h i q (by omega) hq j v hv

set_option maxRecDepth 20000 in
set_option maxHeartbeats 1000000 in
theorem tos_some (b off len cap : Nat) (ps : List PD) (w : World) (hl : ps.length = len) (hp : PAt w b off ps) (hlen : len ≤ 1048576) :
    Calls Try.prog 78 #[.slice (some ⟨b, off, none⟩) len cap] w fun e w' => e = .returned (.slice (some ⟨w.heap.size, 0, none⟩) len len) ∧ Below w.heap.size w w' ∧ ∃ ar, w'.heap[w.heap.size]? = some (.cells ar 60) ∧ ar.size = len * 11 ∧ Cont ps ar len := by
  obtain ⟨arr, hsz, hmk⟩ := make_pairs len hlen w
  have HP : Hid (PAt w b off ps) := hp
  clear hp
  go_enter Try.func78, Try.ntmps78
  go_wp2_with fail
  clear hmk
  go_loopw [4] (fun i wr => ∃ (m : Nat) (ar : Array Value), m ≤ len ∧ i = .int .i64 m ∧ Below w.heap.size w wr ∧ Hid (wr.heap[w.heap.size]? = some (.cells ar 60)) ∧ ar.size = len * 11 ∧ Hid (Cont ps ar m)) (fun i _ => len - (intOf i).toNat)
  case atStart => exact ⟨0, arr, Nat.zero_le _, rfl, bw1 _ _, by show (w.heap.push _)[w.heap.size]? = _; rw [Array.getElem?_push, if_pos rfl], hsz, fun i q hi => absurd hi (Nat.not_lt_zero _)⟩
  case round =>
    obtain ⟨m, ar, hm, rfl, hB, hA, hS, hC⟩ := hrel
    by_cases k1 : m < len
    · obtain ⟨p, hpm⟩ : ∃ p, ps[m]? = some p := ⟨ps[m]'(by omega), by simp⟩
      have c0 : wr.cell? ⟨b, off + m * 11, none⟩ = some (.int .i64 p.key.k) := cell_later hB (HP.out m p hpm 0 _ rfl)
      have c1 : wr.cell? ⟨b, off + m * 11 + 1, none⟩ = some (.int .i64 p.key.n) := cell_later hB (HP.out m p hpm 1 _ rfl)
      have c2 : wr.cell? ⟨b, off + m * 11 + 2, none⟩ = some (.float .f64 p.key.f) := cell_later hB (HP.out m p hpm 2 _ rfl)
      have c3 : wr.cell? ⟨b, off + m * 11 + 3, none⟩ = some (.string p.key.s) := cell_later hB (HP.out m p hpm 3 _ rfl)
      have c4 : wr.cell? ⟨b, off + m * 11 + 4, none⟩ = some (.int .i64 p.key.r) := cell_later hB (HP.out m p hpm 4 _ rfl)
      have c5 : wr.cell? ⟨b, off + m * 11 + 5, none⟩ = some (.int .i64 p.val.k) := cell_later hB (HP.out m p hpm 5 _ rfl)
      have c6 : wr.cell? ⟨b, off + m * 11 + 6, none⟩ = some (.int .i64 p.val.n) := cell_later hB (HP.out m p hpm 6 _ rfl)
      have c7 : wr.cell? ⟨b, off + m * 11 + 7, none⟩ = some (.float .f64 p.val.f) := cell_later hB (HP.out m p hpm 7 _ rfl)
      have c8 : wr.cell? ⟨b, off + m * 11 + 8, none⟩ = some (.string p.val.s) := cell_later hB (HP.out m p hpm 8 _ rfl)
      have c9 : wr.cell? ⟨b, off + m * 11 + 9, none⟩ = some (.int .i64 p.val.r) := cell_later hB (HP.out m p hpm 9 _ rfl)
      have c10 : wr.cell? ⟨b, off + m * 11 + 10, none⟩ = some (.int .i64 p.turn) := cell_later hB (HP.out m p hpm 10 _ rfl)
      have HC : Hid (Cont ps (put11 ar (m * 11) p) (m + 1)) := cont_step hC.out hpm hS k1
      clear hpm hC
      go_wp2_with fail
      refine (top_any p _).mono ?_
      rintro e w1 ⟨rfl, hx⟩
      have hA1 : w1.heap[w.heap.size]? = some (.cells ar 60) := (hx.block _ (Array.getElem?_eq_some_iff.1 hA.out).1).trans hA.out
      replace hB := hB.trans (hx.mono hB.size)
      clear hx c0 c1 c2 c3 c4 c5 c6 c7 c8 c9 c10
      obtain ⟨y0, e0⟩ : ∃ y, w1.cell? ⟨w.heap.size, m * 11, none⟩ = some y := ⟨ar[m * 11]'(by omega), by rw [blk_cell hA1]; simp⟩
      obtain ⟨y1, e1⟩ : ∃ y, w1.cell? ⟨w.heap.size, m * 11 + 1, none⟩ = some y := ⟨ar[m * 11 + 1]'(by omega), by rw [blk_cell hA1]; simp⟩
      obtain ⟨y2, e2⟩ : ∃ y, w1.cell? ⟨w.heap.size, m * 11 + 2, none⟩ = some y := ⟨ar[m * 11 + 2]'(by omega), by rw [blk_cell hA1]; simp⟩
      obtain ⟨y3, e3⟩ : ∃ y, w1.cell? ⟨w.heap.size, m * 11 + 3, none⟩ = some y := ⟨ar[m * 11 + 3]'(by omega), by rw [blk_cell hA1]; simp⟩
      obtain ⟨y4, e4⟩ : ∃ y, w1.cell? ⟨w.heap.size, m * 11 + 4, none⟩ = some y := ⟨ar[m * 11 + 4]'(by omega), by rw [blk_cell hA1]; simp⟩
      obtain ⟨y5, e5⟩ : ∃ y, w1.cell? ⟨w.heap.size, m * 11 + 5, none⟩ = some y := ⟨ar[m * 11 + 5]'(by omega), by rw [blk_cell hA1]; simp⟩
      obtain ⟨y6, e6⟩ : ∃ y, w1.cell? ⟨w.heap.size, m * 11 + 6, none⟩ = some y := ⟨ar[m * 11 + 6]'(by omega), by rw [blk_cell hA1]; simp⟩
      obtain ⟨y7, e7⟩ : ∃ y, w1.cell? ⟨w.heap.size, m * 11 + 7, none⟩ = some y := ⟨ar[m * 11 + 7]'(by omega), by rw [blk_cell hA1]; simp⟩
      obtain ⟨y8, e8⟩ : ∃ y, w1.cell? ⟨w.heap.size, m * 11 + 8, none⟩ = some y := ⟨ar[m * 11 + 8]'(by omega), by rw [blk_cell hA1]; simp⟩
      obtain ⟨y9, e9⟩ : ∃ y, w1.cell? ⟨w.heap.size, m * 11 + 9, none⟩ = some y := ⟨ar[m * 11 + 9]'(by omega), by rw [blk_cell hA1]; simp⟩
      obtain ⟨y10, e10⟩ : ∃ y, w1.cell? ⟨w.heap.size, m * 11 + 10, none⟩ = some y := ⟨ar[m * 11 + 10]'(by omega), by rw [blk_cell hA1]; simp⟩
      have z := blk_frozen hA1
      have HA1 : Hid (w1.heap[w.heap.size]? = some (.cells ar 60)) := hA1
      clear hA hA1
      go_wp2_with fail
      clear e0 e1 e2 e3 e4 e5 e6 e7 e8 e9 e10 z
      go_roundw
      case rel => exact ⟨m + 1, put11 ar (m * 11) p, by omega, by go_num, (((((((((((hB.setCell (p := ⟨w.heap.size, m * 11, none⟩) (Nat.le_refl _) (.int .i64 p.key.k)).setCell (p := ⟨w.heap.size, m * 11 + 1, none⟩) (Nat.le_refl _) (.int .i64 p.key.n)).setCell (p := ⟨w.heap.size, m * 11 + 2, none⟩) (Nat.le_refl _) (.float .f64 p.key.f)).setCell (p := ⟨w.heap.size, m * 11 + 3, none⟩) (Nat.le_refl _) (.string p.key.s)).setCell (p := ⟨w.heap.size, m * 11 + 4, none⟩) (Nat.le_refl _) (.int .i64 p.key.r)).setCell (p := ⟨w.heap.size, m * 11 + 5, none⟩) (Nat.le_refl _) (.int .i64 p.val.k)).setCell (p := ⟨w.heap.size, m * 11 + 6, none⟩) (Nat.le_refl _) (.int .i64 p.val.n)).setCell (p := ⟨w.heap.size, m * 11 + 7, none⟩) (Nat.le_refl _) (.float .f64 p.val.f)).setCell (p := ⟨w.heap.size, m * 11 + 8, none⟩) (Nat.le_refl _) (.string p.val.s)).setCell (p := ⟨w.heap.size, m * 11 + 9, none⟩) (Nat.le_refl _) (.int .i64 p.val.r)).setCell (p := ⟨w.heap.size, m * 11 + 10, none⟩) (Nat.le_refl _) (.int .i64 p.turn)), (by have hA1 := HA1.out; exact (blk_set (blk_set (blk_set (blk_set (blk_set (blk_set (blk_set (blk_set (blk_set (blk_set (blk_set hA1 (m * 11) (.int .i64 p.key.k)) (m * 11 + 1) (.int .i64 p.key.n)) (m * 11 + 2) (.float .f64 p.key.f)) (m * 11 + 3) (.string p.key.s)) (m * 11 + 4) (.int .i64 p.key.r)) (m * 11 + 5) (.int .i64 p.val.k)) (m * 11 + 6) (.int .i64 p.val.n)) (m * 11 + 7) (.float .f64 p.val.f)) (m * 11 + 8) (.string p.val.s)) (m * 11 + 9) (.int .i64 p.val.r)) (m * 11 + 10) (.int .i64 p.turn))), by rw [put11_size]; exact hS, HC⟩
      case measure => simp [intOf]; omega
    · have hml : m = len := by omega
      have HC : Hid (Cont ps ar len) := by have := hC.out; rw [hml] at this; exact this
      clear hC hml
      go_wp2_with fail
      go_ret
      exact ⟨rfl, hB, ar, hA.out, hS, HC.out⟩

/-- What the copy holds, cell by cell. -/
theorem cont_at {ps : List PD} {ar : Array Value} {w : World} {g len : Nat} {t : TypeId} (hl : ps.length = len) (hb : w.heap[g]? = some (.cells ar t)) (h : Cont ps ar len) : PAt w g 0 ps := by
  intro i p hi j v hv
  have hil : i < len := by rw [← hl]; exact (List.getElem?_eq_some_iff.1 hi).1
  rw [Nat.zero_add, blk_cell hb]
  exact h i p hil hi j v hv
end Go.Proofs.Ytkipmogmejfmcaa
