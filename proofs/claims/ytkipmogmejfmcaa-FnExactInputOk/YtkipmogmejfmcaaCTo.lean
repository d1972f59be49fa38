/-
  OWN WORK. Codes: the laws' copies of lists.
-/
import Derived.Test.YtkipmogmejfmcaaCDat
namespace Go.Proofs.Ytkipmogmejfmcaa
open Go.RowKit
attribute [local go_sem] run_store_float
set_option linter.unusedVariables false


theorem blk_cell {w : World} {g : Nat} {arr : Array Value} {t : TypeId} (h : w.heap[g]? = some (.cells arr t)) (j : Nat) : w.cell? ⟨g, j, none⟩ = arr[j]? := by simp [World.cell?, h]
theorem blk_frozen {w : World} {g : Nat} {arr : Array Value} {t : TypeId} (h : w.heap[g]? = some (.cells arr t)) (j : Nat) : w.frozen? ⟨g, j, none⟩ = false := by simp [World.frozen?, h]
theorem blk_set {w : World} {g : Nat} {arr : Array Value} {t : TypeId} (h : w.heap[g]? = some (.cells arr t)) (j : Nat) (v : Value) : (w.setCell ⟨g, j, none⟩ v).heap[g]? = some (.cells (arr.setIfInBounds j v) t) := by
  simp [World.setCell, Array.getElem?_modify, h]
theorem blk_lt {w : World} {g : Nat} {o : Obj} (h : w.heap[g]? = some o) : g < w.heap.size := (Array.getElem?_eq_some_iff.1 h).1
theorem blk_later {w wx : World} {g : Nat} {o : Obj} (hb : Below w.heap.size w wx) (h : w.heap[g]? = some o) : wx.heap[g]? = some o := (hb.block g (blk_lt h)).trans h
theorem blk_new (w : World) (o : Obj) : (w.alloc o).heap[w.heap.size]? = some o := by show (w.heap.push _)[w.heap.size]? = _; rw [Array.getElem?_push, if_pos rfl]
theorem blk_old {w : World} {g : Nat} {o : Obj} (h : w.heap[g]? = some o) (p : Obj) : (w.alloc p).heap[g]? = some o := by
  show (w.heap.push _)[g]? = _; rw [Array.getElem?_push, if_neg (Nat.ne_of_lt (blk_lt h))]; exact h
theorem blk_other {w : World} {g k : Nat} {o : Obj} (h : w.heap[g]? = some o) (hk : k ≠ g) (j : Nat) (v : Value) : (w.setCell ⟨k, j, none⟩ v).heap[g]? = some o := by
  rw [Below.heap_setCell _ _ _ _ (by simpa using hk.symm)]; exact h
theorem und1 {B : Nat} {w w' : World} (h : Below B w.drew w') : Below B w w' := ⟨h.os, h.tape, h.output, h.size, h.block⟩

/-- Cells of a row are written. -/
def putl (ar : Array Value) (o : Nat) : List Value → Array Value
  | [] => ar
  | v :: vs => putl (ar.setIfInBounds o v) (o + 1) vs
theorem putl_size : ∀ (vs : List Value) (ar : Array Value) (o : Nat), (putl ar o vs).size = ar.size
  | [], _, _ => rfl
  | v :: vs, ar, o => by simp [putl, putl_size vs]
theorem putl_below : ∀ (vs : List Value) (ar : Array Value) (o k : Nat), k < o → (putl ar o vs)[k]? = ar[k]?
  | [], _, _, _, _ => rfl
  | v :: vs, ar, o, k, h => by
    rw [putl, putl_below vs _ _ _ (by omega), Array.getElem?_setIfInBounds, if_neg (by omega)]
theorem putl_at : ∀ (vs : List Value) (ar : Array Value) (o : Nat), o + vs.length ≤ ar.size → ∀ j, j < vs.length → (putl ar o vs)[o + j]? = vs[j]?
  | [], _, _, _, j, hj => by simp at hj
  | v :: vs, ar, o, h, j, hj => by
    simp only [List.length_cons] at h hj
    cases j with
    | zero =>
      show (putl (ar.setIfInBounds o v) (o + 1) vs)[o]? = some v
      rw [putl_below vs _ _ _ (by omega), Array.getElem?_setIfInBounds, if_pos rfl, if_pos (by omega)]
    | succ j =>
      rw [putl, show o + (j + 1) = o + 1 + j by omega, putl_at vs _ _ (by simp; omega) j (by omega)]; rfl

/-- The first m elements lie in the row. -/
def ContG {α : Type} (k : Nat) (cells : α → List Value) (xs : List α) (ar : Array Value) (m : Nat) : Prop := ∀ i q, i < m → xs[i]? = some q → ∀ j v, (cells q)[j]? = some v → ar[i * k + j]? = some v
theorem contG_step {α : Type} {k : Nat} {cells : α → List Value} {xs : List α} {ar : Array Value} {m len : Nat} {p : α} (hk : ∀ x, (cells x).length = k) (h : ContG k cells xs ar m) (hp : xs[m]? = some p) (hs : ar.size = len * k) (hm : m < len) : ContG k cells xs (putl ar (m * k) (cells p)) (m + 1) := by
  intro i q hi hq j v hv
  have hj : j < k := by
    have := (List.getElem?_eq_some_iff.1 hv).1
    rw [hk] at this; exact this
  have hle : m * k + k ≤ len * k := by
    have := Nat.mul_le_mul_right k (show m + 1 ≤ len from hm)
    rw [Nat.succ_mul] at this; exact this
  by_cases he : i = m
  · subst he
    rw [hp] at hq
    cases hq
    rw [putl_at _ _ _ (by rw [hk, hs]; exact hle) j (by rw [hk]; exact hj)]; exact hv
  · have hlt : i * k + j < m * k := by
      have := Nat.mul_le_mul_right k (show i + 1 ≤ m by omega)
      rw [Nat.succ_mul] at this; omega
    rw [putl_below _ _ _ _ hlt]
    exact h i q (by omega) hq j v hv
theorem contG_zero {α : Type} (k : Nat) (cells : α → List Value) (xs : List α) (ar : Array Value) : ContG k cells xs ar 0 := fun i q hi => absurd hi (Nat.not_lt_zero _)

/-- A row of one's own: a block that holds just it. -/
def RowG {α : Type} (w : World) (g k : Nat) (t : TypeId) (cells : α → List Value) (xs : List α) : Prop := ∃ ar, w.heap[g]? = some (.cells ar t) ∧ ar.size = xs.length * k ∧ ContG k cells xs ar xs.length
theorem RowG.later {α : Type} {w wx : World} {g k : Nat} {t : TypeId} {cells : α → List Value} {xs : List α} (hb : Below w.heap.size w wx) (h : RowG w g k t cells xs) : RowG wx g k t cells xs := by
  obtain ⟨ar, h1, h2, h3⟩ := h
  exact ⟨ar, blk_later hb h1, h2, h3⟩
theorem RowG.set {α : Type} {w : World} {g k q : Nat} {t : TypeId} {cells : α → List Value} {xs : List α} (h : RowG w g k t cells xs) (hk : q ≠ g) (j : Nat) (v : Value) : RowG (w.setCell ⟨q, j, none⟩ v) g k t cells xs := by
  obtain ⟨ar, h1, h2, h3⟩ := h
  exact ⟨ar, blk_other h1 hk j v, h2, h3⟩
theorem RowG.lt {α : Type} {w : World} {g k : Nat} {t : TypeId} {cells : α → List Value} {xs : List α} (h : RowG w g k t cells xs) : g < w.heap.size := by
  obtain ⟨ar, h1, h2, h3⟩ := h
  exact blk_lt h1
theorem RowG.at {α : Type} {w : World} {g k : Nat} {t : TypeId} {cells : α → List Value} {xs : List α} (h : RowG w g k t cells xs) : SlA w k cells (some ⟨g, 0, none⟩) xs := by
  intro i x hi
  refine ⟨g, 0, rfl, h.lt, fun j v hv => ?_⟩
  obtain ⟨ar, h1, h2, h3⟩ := h
  rw [Nat.zero_add, blk_cell h1]
  exact h3 i x (List.getElem?_eq_some_iff.1 hi).1 hi j v hv

/-- A new list of so many elements. -/
theorem make_of {P : Program} (st et : TypeId) (k by' len : Nat) (hu : P.underlying st = some (.slice et)) (hc : (P.info? et).map (fun i => (i.zero.isSome, i.size, i.bytes)) = some (true, k, by')) (hb : by' ≤ 1000) (hlen : len ≤ 1048576) (w : World) : ∃ arr : Array Value, arr.size = len * k ∧ (Instr.makeSlice st (.int .i64 (len : Int)) (.int .i64 (len : Int))).run P w = .ok (.slice (some ⟨w.heap.size, 0, none⟩) len len) (w.alloc (.cells arr et)) := by
  cases hi : P.info? et with
  | none => rw [hi] at hc; cases hc
  | some i =>
    rw [hi] at hc
    simp only [Option.map_some, Option.some.injEq, Prod.mk.injEq] at hc
    obtain ⟨h1, h2, h3⟩ := hc
    obtain ⟨z, hz⟩ := Option.isSome_iff_exists.1 h1
    have hr := run_make (P := P) w st et i z hu hi hz .i64 .i64 (len : Int) (len : Int) (by omega) (by omega) (by
      rw [h3]
      have : len * by' ≤ 1048576 * 1000 := Nat.mul_le_mul hlen hb
      have h' : ((len * by' : Nat) : Int) ≤ 1048576000 := by omega
      have h'' : ((len : Int) * (by' : Int)) ≤ 1048576000 := by rw [← Int.natCast_mul]; exact h'
      rw [Int.mul_comm] at h''
      omega) (by omega)
    refine ⟨madeCells z.cells (len * i.size), ?_, ?_⟩
    · rw [size_madeCells, h2]
    · simpa using hr

abbrev UV (x : UD) : Value := .agg #[.bool x.l, .int .i64 x.i]
theorem UD.len (x : UD) : x.cells.length = 2 := rfl
abbrev VVd (x : VD) : Value := .agg #[.int .i64 x.k, .int .i64 x.n, .float .f64 x.f, .string x.s, .int .i64 x.r]
theorem VD.len (x : VD) : x.cells.length = 5 := rfl
abbrev IV (x : ID) : Value := .agg #[.int .i64 x.op, .int .i64 x.a, .int .i64 x.b, .int .i64 x.c, .int .i64 x.d]
theorem ID.len (x : ID) : x.cells.length = 5 := rfl
abbrev NV (x : ND) : Value := .agg #[.string x.s, .int .i64 x.reg, .int .i64 x.fr, .int .i64 x.to]
theorem ND.len (x : ND) : x.cells.length = 4 := rfl

set_option maxHeartbeats 400000 in
theorem tov_any (x : VD) (w : World) : Calls Try.prog 17 #[VVd x] w fun e w' => e = .returned (VVd x) ∧ Below w.heap.size w w' := by
  go_enter Try.func17, Try.ntmps17
  go_wp2
  exact bodyPost_ret (v := VVd x) (by simp [results, Try.results17, go_sem]) rfl ⟨rfl, bw3 _ _ _ _⟩

end Go.Proofs.Ytkipmogmejfmcaa
