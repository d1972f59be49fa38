/-
  OWN WORK. Codes: the laws' copies of lists.
-/
import Derived.Test.YtmicnjphlakoaaaGreatDoorCDat
namespace Go.Proofs.YtmicnjphlakoaaaGreatDoor
open Go.RowKit
attribute [local go_sem] run_store_float
set_option linter.unusedVariables false


theorem blk_cell {w : World} {g : Nat} {arr : Array Value} {t : TypeId} (h : w.heap[g]? = some (.cells arr t)) (j : Nat) : w.cell? ⟨g, j, none⟩ = arr[j]? := by simp [World.cell?, h]
theorem blk_frozen {w : World} {g : Nat} {arr : Array Value} {t : TypeId} (h : w.heap[g]? = some (.cells arr t)) (j : Nat) : w.frozen? ⟨g, j, none⟩ = false := by simp [World.frozen?, h]
theorem blk_set {w : World} {g : Nat} {arr : Array Value} {t : TypeId} (h : w.heap[g]? = some (.cells arr t)) (j : Nat) (v : Value) : (w.setCell ⟨g, j, none⟩ v).heap[g]? = some (.cells (arr.setIfInBounds j v) t) := by
  simp [World.setCell, Array.getElem?_modify, h]
theorem blk_lt {w : World} {g : Nat} {o : Obj} (h : w.heap[g]? = some o) : g < w.heap.size := (Array.getElem?_eq_some_iff.1 h).1
theorem blk_later {w wx : World} {g : Nat} {o : Obj} (hb : Below w.heap.size w wx) (h : w.heap[g]? = some o) : wx.heap[g]? = some o := (hb.block g (blk_lt h)).trans h
theorem blk_new (w : World) (o : Obj) : (w.alloc o).heap[w.heap.size]? = some o := by show (w.heap.push _)[w.heap.size]? = _; rw [Array.getElem?_push, if_pos rfl]
theorem blk_old {w : World} {g : Nat} {o : Obj} (h : w.heap[g]? = some o) (p : Obj) : (w.alloc p).heap[g]? = some o := by
  show (w.heap.push _)[g]? = _; rw [Array.getElem?_push, if_neg (Nat.ne_of_lt (blk_lt h))]; exact h
theorem blk_other {w : World} {g k : Nat} {o : Obj} (h : w.heap[g]? = some o) (hk : k ≠ g) (j : Nat) (v : Value) : (w.setCell ⟨k, j, none⟩ v).heap[g]? = some o := by
  rw [Below.heap_setCell _ _ _ _ (by simpa using hk.symm)]; exact h
theorem und1 {B : Nat} {w w' : World} (h : Below B w.drew w') : Below B w w' := ⟨h.os, h.tape, h.output, h.size, h.block⟩

/-- Cells of a row are written. -/
def putl (ar : Array Value) (o : Nat) : List Value → Array Value
  | [] => ar
  | v :: vs => putl (ar.setIfInBounds o v) (o + 1) vs
theorem putl_size : ∀ (vs : List Value) (ar : Array Value) (o : Nat), (putl ar o vs).size = ar.size
  | [], _, _ => rfl
  | v :: vs, ar, o => by simp [putl, putl_size vs]
theorem putl_below : ∀ (vs : List Value) (ar : Array Value) (o k : Nat), k < o → (putl ar o vs)[k]? = ar[k]?
  | [], _, _, _, _ => rfl
  | v :: vs, ar, o, k, h => by
    rw [putl, putl_below vs _ _ _ (by omega), Array.getElem?_setIfInBounds, if_neg (by omega)]
theorem putl_at : ∀ (vs : List Value) (ar : Array Value) (o : Nat), o + vs.length ≤ ar.size → ∀ j, j < vs.length → (putl ar o vs)[o + j]? = vs[j]?
  | [], _, _, _, j, hj => by simp at hj
  | v :: vs, ar, o, h, j, hj => by
    simp only [List.length_cons] at h hj
    cases j with
    | zero =>
      show (putl (ar.setIfInBounds o v) (o + 1) vs)[o]? = some v
      rw [putl_below vs _ _ _ (by omega), Array.getElem?_setIfInBounds, if_pos rfl, if_pos (by omega)]
    | succ j =>
      rw [putl, show o + (j + 1) = o + 1 + j by omega, putl_at vs _ _ (by simp; omega) j (by omega)]; rfl

/-- The first m elements lie in the row. -/
def ContG {α : Type} (k : Nat) (cells : α → List Value) (xs : List α) (ar : Array Value) (m : Nat) : Prop := ∀ i q, i < m → xs[i]? = some q → ∀ j v, (cells q)[j]? = some v → ar[i * k + j]? = some v
theorem contG_step {α : Type} {k : Nat} {cells : α → List Value} {xs : List α} {ar : Array Value} {m len : Nat} {p : α} (hk : ∀ x, (cells x).length = k) (h : ContG k cells xs ar m) (hp : xs[m]? = some p) (hs : ar.size = len * k) (hm : m < len) : ContG k cells xs (putl ar (m * k) (cells p)) (m + 1) := by
  intro i q hi hq j v hv
  have hj : j < k := by
    have := (List.getElem?_eq_some_iff.1 hv).1
    rw [hk] at this; exact this
  have hle : m * k + k ≤ len * k := by
    have := Nat.mul_le_mul_right k (show m + 1 ≤ len from hm)
    rw [Nat.succ_mul] at this; exact this
  by_cases he : i = m
  · subst he
    rw [hp] at hq
    cases hq
    rw [putl_at _ _ _ (by rw [hk, hs]; exact hle) j (by rw [hk]; exact hj)]; exact hv
  · have hlt : i * k + j < m * k := by
      have := Nat.mul_le_mul_right k (show i + 1 ≤ m by omega)
      rw [Nat.succ_mul] at this; omega
    rw [putl_below _ _ _ _ hlt]
    exact h i q (by omega) hq j v hv
theorem contG_zero {α : Type} (k : Nat) (cells : α → List Value) (xs : List α) (ar : Array Value) : ContG k cells xs ar 0 := fun i q hi => absurd hi (Nat.not_lt_zero _)

/-- A row of one's own: a block that holds just it. -/
def RowG {α : Type} (w : World) (g k : Nat) (t : TypeId) (cells : α → List Value) (xs : List α) : Prop := ∃ ar, w.heap[g]? = some (.cells ar t) ∧ ar.size = xs.length * k ∧ ContG k cells xs ar xs.length
theorem RowG.later {α : Type} {w wx : World} {g k : Nat} {t : TypeId} {cells : α → List Value} {xs : List α} (hb : Below w.heap.size w wx) (h : RowG w g k t cells xs) : RowG wx g k t cells xs := by
  obtain ⟨ar, h1, h2, h3⟩ := h
  exact ⟨ar, blk_later hb h1, h2, h3⟩
theorem RowG.set {α : Type} {w : World} {g k q : Nat} {t : TypeId} {cells : α → List Value} {xs : List α} (h : RowG w g k t cells xs) (hk : q ≠ g) (j : Nat) (v : Value) : RowG (w.setCell ⟨q, j, none⟩ v) g k t cells xs := by
  obtain ⟨ar, h1, h2, h3⟩ := h
  exact ⟨ar, blk_other h1 hk j v, h2, h3⟩
theorem RowG.lt {α : Type} {w : World} {g k : Nat} {t : TypeId} {cells : α → List Value} {xs : List α} (h : RowG w g k t cells xs) : g < w.heap.size := by
  obtain ⟨ar, h1, h2, h3⟩ := h
  exact blk_lt h1
theorem RowG.at {α : Type} {w : World} {g k : Nat} {t : TypeId} {cells : α → List Value} {xs : List α} (h : RowG w g k t cells xs) : SlA w k cells (some ⟨g, 0, none⟩) xs := by
  intro i x hi
  refine ⟨g, 0, rfl, h.lt, fun j v hv => ?_⟩
  obtain ⟨ar, h1, h2, h3⟩ := h
  rw [Nat.zero_add, blk_cell h1]
  exact h3 i x (List.getElem?_eq_some_iff.1 hi).1 hi j v hv

/-- A new list of so many elements. -/
theorem make_of {P : Program} (st et : TypeId) (k by' len : Nat) (hu : P.underlying st = some (.slice et)) (hc : (P.info? et).map (fun i => (i.zero.isSome, i.size, i.bytes)) = some (true, k, by')) (hb : by' ≤ 1000) (hlen : len ≤ 1048576) (w : World) : ∃ arr : Array Value, arr.size = len * k ∧ (Instr.makeSlice st (.int .i64 (len : Int)) (.int .i64 (len : Int))).run P w = .ok (.slice (some ⟨w.heap.size, 0, none⟩) len len) (w.alloc (.cells arr et)) := by
  cases hi : P.info? et with
  | none => rw [hi] at hc; cases hc
  | some i =>
    rw [hi] at hc
    simp only [Option.map_some, Option.some.injEq, Prod.mk.injEq] at hc
    obtain ⟨h1, h2, h3⟩ := hc
    obtain ⟨z, hz⟩ := Option.isSome_iff_exists.1 h1
    have hr := run_make (P := P) w st et i z hu hi hz .i64 .i64 (len : Int) (len : Int) (by omega) (by omega) (by
      rw [h3]
      have : len * by' ≤ 1048576 * 1000 := Nat.mul_le_mul hlen hb
      have h' : ((len * by' : Nat) : Int) ≤ 1048576000 := by omega
      have h'' : ((len : Int) * (by' : Int)) ≤ 1048576000 := by rw [← Int.natCast_mul]; exact h'
      rw [Int.mul_comm] at h''
      omega) (by omega)
    refine ⟨madeCells z.cells (len * i.size), ?_, ?_⟩
    · rw [size_madeCells, h2]
    · simpa using hr

abbrev UV (x : UD) : Value := .agg #[.bool x.l, .int .i64 x.i]
theorem UD.len (x : UD) : x.cells.length = 2 := rfl
abbrev VVd (x : VD) : Value := .agg #[.int .i64 x.k, .int .i64 x.n, .float .f64 x.f, .string x.s, .int .i64 x.r]
theorem VD.len (x : VD) : x.cells.length = 5 := rfl
abbrev IV (x : ID) : Value := .agg #[.int .i64 x.op, .int .i64 x.a, .int .i64 x.b, .int .i64 x.c, .int .i64 x.d]
theorem ID.len (x : ID) : x.cells.length = 5 := rfl
abbrev NV (x : ND) : Value := .agg #[.string x.s, .int .i64 x.reg, .int .i64 x.fr, .int .i64 x.to]
theorem ND.len (x : ND) : x.cells.length = 4 := rfl

set_option maxHeartbeats 400000 in
theorem tou_any (x : UD) (w : World) : Calls Tryz.prog 64 #[UV x] w fun e w' => e = .returned (UV x) ∧ Below w.heap.size w w' := by
  go_enter Tryz.func64, Tryz.ntmps64
  go_wp2
  exact bodyPost_ret (v := UV x) (by simp [results, Tryz.results64, go_sem]) rfl ⟨rfl, bw3 _ _ _ _⟩

set_option maxHeartbeats 400000 in
theorem tov_any (x : VD) (w : World) : Calls Tryz.prog 65 #[VVd x] w fun e w' => e = .returned (VVd x) ∧ Below w.heap.size w w' := by
  go_enter Tryz.func65, Tryz.ntmps65
  go_wp2
  exact bodyPost_ret (v := VVd x) (by simp [results, Tryz.results65, go_sem]) rfl ⟨rfl, bw3 _ _ _ _⟩

set_option maxHeartbeats 400000 in
theorem toi_any (x : ID) (w : World) : Calls Tryz.prog 66 #[IV x] w fun e w' => e = .returned (IV x) ∧ Below w.heap.size w w' := by
  go_enter Tryz.func66, Tryz.ntmps66
  go_wp2
  exact bodyPost_ret (v := IV x) (by simp [results, Tryz.results66, go_sem]) rfl ⟨rfl, bw3 _ _ _ _⟩

set_option maxHeartbeats 400000 in
theorem ton_any (x : ND) (w : World) : Calls Tryz.prog 67 #[NV x] w fun e w' => e = .returned (NV x) ∧ Below w.heap.size w w' := by
  go_enter Tryz.func67, Tryz.ntmps67
  go_wp2
  exact bodyPost_ret (v := NV x) (by simp [results, Tryz.results67, go_sem]) rfl ⟨rfl, bw3 _ _ _ _⟩

set_option maxRecDepth 20000 in
set_option maxHeartbeats 1000000 in
theorem tous_any (a : Option Addr) (len cap : Nat) (xs : List UD) (w : World) (hl : xs.length = len) (hp : SlA w 2 UD.cells a xs) (hlen : len ≤ 1048576) :
    Calls Tryz.prog 42 #[.slice a len cap] w fun e w' => e = .returned (.slice (some ⟨w.heap.size, 0, none⟩) len len) ∧ Below w.heap.size w w' ∧ RowG w' w.heap.size 2 68 UD.cells xs := by
  obtain ⟨arr, hsz, hmk⟩ := make_of (P := Tryz.prog) 38 68 2 16 len Tryz.underlying38 (by kernel_rfl) (by omega) hlen w
  have HP : Hid (SlA w 2 UD.cells a xs) := hp
  have HL : Hid (xs.length = len) := hl
  clear hp hl
  go_enter Tryz.func42, Tryz.ntmps42
  go_wp2_with fail
  clear hmk
  go_loopw [4] (fun i wr => ∃ (m : Nat) (ar : Array Value), m ≤ len ∧ i = .int .i64 m ∧ Below w.heap.size w wr ∧ Hid (wr.heap[w.heap.size]? = some (.cells ar 68)) ∧ ar.size = len * 2 ∧ Hid (ContG 2 UD.cells xs ar m)) (fun i _ => len - (intOf i).toNat)
  case atStart => exact ⟨0, arr, Nat.zero_le _, rfl, bw1 _ _, blk_new _ _, hsz, contG_zero _ _ _ _⟩
  case round =>
    obtain ⟨m, ar, hm, rfl, hB, hA, hS, hC⟩ := hrel
    by_cases k1 : m < len
    · obtain ⟨x, hx⟩ : ∃ x, xs[m]? = some x := ⟨xs[m]'(by rw [HL.out]; exact k1), by simp⟩
      obtain ⟨b, off, rfl, hb, hc⟩ := HP.out m x hx
      have c0 : wr.cell? ⟨b, off + m * 2, none⟩ = some (.bool x.l) := cell_later hB (hc 0 _ rfl)
      have c1 : wr.cell? ⟨b, off + m * 2 + 1, none⟩ = some (.int .i64 x.i) := cell_later hB (hc 1 _ rfl)
      have HC : Hid (ContG 2 UD.cells xs (putl ar (m * 2) x.cells) (m + 1)) := contG_step UD.len hC.out hx hS k1
      clear hx hC hc hb
      go_wp2_with fail
      refine (tou_any x _).mono ?_
      rintro e w1 ⟨rfl, hx⟩
      have hA1 : w1.heap[w.heap.size]? = some (.cells ar 68) := blk_later hx hA.out
      replace hB := hB.trans (hx.mono hB.size)
      clear hx c0 c1
      obtain ⟨y0, e0⟩ : ∃ y, w1.cell? ⟨w.heap.size, m * 2, none⟩ = some y := ⟨ar[m * 2]'(by omega), by rw [blk_cell hA1]; simp⟩
      obtain ⟨y1, e1⟩ : ∃ y, w1.cell? ⟨w.heap.size, m * 2 + 1, none⟩ = some y := ⟨ar[m * 2 + 1]'(by omega), by rw [blk_cell hA1]; simp⟩
      have z := blk_frozen hA1
      have HA1 : Hid (w1.heap[w.heap.size]? = some (.cells ar 68)) := hA1
      clear hA hA1
      go_wp2_with fail
      clear e0 e1 z
      go_roundw
      case rel => exact ⟨m + 1, putl ar (m * 2) x.cells, by omega, by go_num, ((hB.setCell (p := ⟨w.heap.size, m * 2, none⟩) (Nat.le_refl _) (.bool x.l)).setCell (p := ⟨w.heap.size, m * 2 + 1, none⟩) (Nat.le_refl _) (.int .i64 x.i)), (blk_set (blk_set HA1.out (m * 2) (.bool x.l)) (m * 2 + 1) (.int .i64 x.i)), by rw [putl_size]; exact hS, HC⟩
      case measure => simp [intOf]; omega
    · have hml : m = len := by omega
      have HC : Hid (ContG 2 UD.cells xs ar len) := by have := hC.out; rw [hml] at this; exact this
      clear hC hml
      go_wp2_with fail
      go_ret
      exact ⟨rfl, hB, ar, hA.out, by rw [HL.out]; exact hS, by rw [HL.out]; exact HC.out⟩

set_option maxRecDepth 20000 in
set_option maxHeartbeats 1000000 in
theorem tovs_any (a : Option Addr) (len cap : Nat) (xs : List VD) (w : World) (hl : xs.length = len) (hp : SlA w 5 VD.cells a xs) (hlen : len ≤ 1048576) :
    Calls Tryz.prog 43 #[.slice a len cap] w fun e w' => e = .returned (.slice (some ⟨w.heap.size, 0, none⟩) len len) ∧ Below w.heap.size w w' ∧ RowG w' w.heap.size 5 64 VD.cells xs := by
  obtain ⟨arr, hsz, hmk⟩ := make_of (P := Tryz.prog) 39 64 5 48 len Tryz.underlying39 (by kernel_rfl) (by omega) hlen w
  have HP : Hid (SlA w 5 VD.cells a xs) := hp
  have HL : Hid (xs.length = len) := hl
  clear hp hl
  go_enter Tryz.func43, Tryz.ntmps43
  go_wp2_with fail
  clear hmk
  go_loopw [4] (fun i wr => ∃ (m : Nat) (ar : Array Value), m ≤ len ∧ i = .int .i64 m ∧ Below w.heap.size w wr ∧ Hid (wr.heap[w.heap.size]? = some (.cells ar 64)) ∧ ar.size = len * 5 ∧ Hid (ContG 5 VD.cells xs ar m)) (fun i _ => len - (intOf i).toNat)
  case atStart => exact ⟨0, arr, Nat.zero_le _, rfl, bw1 _ _, blk_new _ _, hsz, contG_zero _ _ _ _⟩
  case round =>
    obtain ⟨m, ar, hm, rfl, hB, hA, hS, hC⟩ := hrel
    by_cases k1 : m < len
    · obtain ⟨x, hx⟩ : ∃ x, xs[m]? = some x := ⟨xs[m]'(by rw [HL.out]; exact k1), by simp⟩
      obtain ⟨b, off, rfl, hb, hc⟩ := HP.out m x hx
      have c0 : wr.cell? ⟨b, off + m * 5, none⟩ = some (.int .i64 x.k) := cell_later hB (hc 0 _ rfl)
      have c1 : wr.cell? ⟨b, off + m * 5 + 1, none⟩ = some (.int .i64 x.n) := cell_later hB (hc 1 _ rfl)
      have c2 : wr.cell? ⟨b, off + m * 5 + 2, none⟩ = some (.float .f64 x.f) := cell_later hB (hc 2 _ rfl)
      have c3 : wr.cell? ⟨b, off + m * 5 + 3, none⟩ = some (.string x.s) := cell_later hB (hc 3 _ rfl)
      have c4 : wr.cell? ⟨b, off + m * 5 + 4, none⟩ = some (.int .i64 x.r) := cell_later hB (hc 4 _ rfl)
      have HC : Hid (ContG 5 VD.cells xs (putl ar (m * 5) x.cells) (m + 1)) := contG_step VD.len hC.out hx hS k1
      clear hx hC hc hb
      go_wp2_with fail
      refine (tov_any x _).mono ?_
      rintro e w1 ⟨rfl, hx⟩
      have hA1 : w1.heap[w.heap.size]? = some (.cells ar 64) := blk_later hx hA.out
      replace hB := hB.trans (hx.mono hB.size)
      clear hx c0 c1 c2 c3 c4
      obtain ⟨y0, e0⟩ : ∃ y, w1.cell? ⟨w.heap.size, m * 5, none⟩ = some y := ⟨ar[m * 5]'(by omega), by rw [blk_cell hA1]; simp⟩
      obtain ⟨y1, e1⟩ : ∃ y, w1.cell? ⟨w.heap.size, m * 5 + 1, none⟩ = some y := ⟨ar[m * 5 + 1]'(by omega), by rw [blk_cell hA1]; simp⟩
      obtain ⟨y2, e2⟩ : ∃ y, w1.cell? ⟨w.heap.size, m * 5 + 2, none⟩ = some y := ⟨ar[m * 5 + 2]'(by omega), by rw [blk_cell hA1]; simp⟩
      obtain ⟨y3, e3⟩ : ∃ y, w1.cell? ⟨w.heap.size, m * 5 + 3, none⟩ = some y := ⟨ar[m * 5 + 3]'(by omega), by rw [blk_cell hA1]; simp⟩
      obtain ⟨y4, e4⟩ : ∃ y, w1.cell? ⟨w.heap.size, m * 5 + 4, none⟩ = some y := ⟨ar[m * 5 + 4]'(by omega), by rw [blk_cell hA1]; simp⟩
      have z := blk_frozen hA1
      have HA1 : Hid (w1.heap[w.heap.size]? = some (.cells ar 64)) := hA1
      clear hA hA1
      go_wp2_with fail
      clear e0 e1 e2 e3 e4 z
      go_roundw
      case rel => exact ⟨m + 1, putl ar (m * 5) x.cells, by omega, by go_num, (((((hB.setCell (p := ⟨w.heap.size, m * 5, none⟩) (Nat.le_refl _) (.int .i64 x.k)).setCell (p := ⟨w.heap.size, m * 5 + 1, none⟩) (Nat.le_refl _) (.int .i64 x.n)).setCell (p := ⟨w.heap.size, m * 5 + 2, none⟩) (Nat.le_refl _) (.float .f64 x.f)).setCell (p := ⟨w.heap.size, m * 5 + 3, none⟩) (Nat.le_refl _) (.string x.s)).setCell (p := ⟨w.heap.size, m * 5 + 4, none⟩) (Nat.le_refl _) (.int .i64 x.r)), (blk_set (blk_set (blk_set (blk_set (blk_set HA1.out (m * 5) (.int .i64 x.k)) (m * 5 + 1) (.int .i64 x.n)) (m * 5 + 2) (.float .f64 x.f)) (m * 5 + 3) (.string x.s)) (m * 5 + 4) (.int .i64 x.r)), by rw [putl_size]; exact hS, HC⟩
      case measure => simp [intOf]; omega
    · have hml : m = len := by omega
      have HC : Hid (ContG 5 VD.cells xs ar len) := by have := hC.out; rw [hml] at this; exact this
      clear hC hml
      go_wp2_with fail
      go_ret
      exact ⟨rfl, hB, ar, hA.out, by rw [HL.out]; exact hS, by rw [HL.out]; exact HC.out⟩

set_option maxRecDepth 20000 in
set_option maxHeartbeats 1000000 in
theorem tois_any (a : Option Addr) (len cap : Nat) (xs : List ID) (w : World) (hl : xs.length = len) (hp : SlA w 5 ID.cells a xs) (hlen : len ≤ 1048576) :
    Calls Tryz.prog 44 #[.slice a len cap] w fun e w' => e = .returned (.slice (some ⟨w.heap.size, 0, none⟩) len len) ∧ Below w.heap.size w w' ∧ RowG w' w.heap.size 5 45 ID.cells xs := by
  obtain ⟨arr, hsz, hmk⟩ := make_of (P := Tryz.prog) 40 45 5 40 len Tryz.underlying40 (by kernel_rfl) (by omega) hlen w
  have HP : Hid (SlA w 5 ID.cells a xs) := hp
  have HL : Hid (xs.length = len) := hl
  clear hp hl
  go_enter Tryz.func44, Tryz.ntmps44
  go_wp2_with fail
  clear hmk
  go_loopw [4] (fun i wr => ∃ (m : Nat) (ar : Array Value), m ≤ len ∧ i = .int .i64 m ∧ Below w.heap.size w wr ∧ Hid (wr.heap[w.heap.size]? = some (.cells ar 45)) ∧ ar.size = len * 5 ∧ Hid (ContG 5 ID.cells xs ar m)) (fun i _ => len - (intOf i).toNat)
  case atStart => exact ⟨0, arr, Nat.zero_le _, rfl, bw1 _ _, blk_new _ _, hsz, contG_zero _ _ _ _⟩
  case round =>
    obtain ⟨m, ar, hm, rfl, hB, hA, hS, hC⟩ := hrel
    by_cases k1 : m < len
    · obtain ⟨x, hx⟩ : ∃ x, xs[m]? = some x := ⟨xs[m]'(by rw [HL.out]; exact k1), by simp⟩
      obtain ⟨b, off, rfl, hb, hc⟩ := HP.out m x hx
      have c0 : wr.cell? ⟨b, off + m * 5, none⟩ = some (.int .i64 x.op) := cell_later hB (hc 0 _ rfl)
      have c1 : wr.cell? ⟨b, off + m * 5 + 1, none⟩ = some (.int .i64 x.a) := cell_later hB (hc 1 _ rfl)
      have c2 : wr.cell? ⟨b, off + m * 5 + 2, none⟩ = some (.int .i64 x.b) := cell_later hB (hc 2 _ rfl)
      have c3 : wr.cell? ⟨b, off + m * 5 + 3, none⟩ = some (.int .i64 x.c) := cell_later hB (hc 3 _ rfl)
      have c4 : wr.cell? ⟨b, off + m * 5 + 4, none⟩ = some (.int .i64 x.d) := cell_later hB (hc 4 _ rfl)
      have HC : Hid (ContG 5 ID.cells xs (putl ar (m * 5) x.cells) (m + 1)) := contG_step ID.len hC.out hx hS k1
      clear hx hC hc hb
      go_wp2_with fail
      refine (toi_any x _).mono ?_
      rintro e w1 ⟨rfl, hx⟩
      have hA1 : w1.heap[w.heap.size]? = some (.cells ar 45) := blk_later hx hA.out
      replace hB := hB.trans (hx.mono hB.size)
      clear hx c0 c1 c2 c3 c4
      obtain ⟨y0, e0⟩ : ∃ y, w1.cell? ⟨w.heap.size, m * 5, none⟩ = some y := ⟨ar[m * 5]'(by omega), by rw [blk_cell hA1]; simp⟩
      obtain ⟨y1, e1⟩ : ∃ y, w1.cell? ⟨w.heap.size, m * 5 + 1, none⟩ = some y := ⟨ar[m * 5 + 1]'(by omega), by rw [blk_cell hA1]; simp⟩
      obtain ⟨y2, e2⟩ : ∃ y, w1.cell? ⟨w.heap.size, m * 5 + 2, none⟩ = some y := ⟨ar[m * 5 + 2]'(by omega), by rw [blk_cell hA1]; simp⟩
      obtain ⟨y3, e3⟩ : ∃ y, w1.cell? ⟨w.heap.size, m * 5 + 3, none⟩ = some y := ⟨ar[m * 5 + 3]'(by omega), by rw [blk_cell hA1]; simp⟩
      obtain ⟨y4, e4⟩ : ∃ y, w1.cell? ⟨w.heap.size, m * 5 + 4, none⟩ = some y := ⟨ar[m * 5 + 4]'(by omega), by rw [blk_cell hA1]; simp⟩
      have z := blk_frozen hA1
      have HA1 : Hid (w1.heap[w.heap.size]? = some (.cells ar 45)) := hA1
      clear hA hA1
      go_wp2_with fail
      clear e0 e1 e2 e3 e4 z
      go_roundw
      case rel => exact ⟨m + 1, putl ar (m * 5) x.cells, by omega, by go_num, (((((hB.setCell (p := ⟨w.heap.size, m * 5, none⟩) (Nat.le_refl _) (.int .i64 x.op)).setCell (p := ⟨w.heap.size, m * 5 + 1, none⟩) (Nat.le_refl _) (.int .i64 x.a)).setCell (p := ⟨w.heap.size, m * 5 + 2, none⟩) (Nat.le_refl _) (.int .i64 x.b)).setCell (p := ⟨w.heap.size, m * 5 + 3, none⟩) (Nat.le_refl _) (.int .i64 x.c)).setCell (p := ⟨w.heap.size, m * 5 + 4, none⟩) (Nat.le_refl _) (.int .i64 x.d)), (blk_set (blk_set (blk_set (blk_set (blk_set HA1.out (m * 5) (.int .i64 x.op)) (m * 5 + 1) (.int .i64 x.a)) (m * 5 + 2) (.int .i64 x.b)) (m * 5 + 3) (.int .i64 x.c)) (m * 5 + 4) (.int .i64 x.d)), by rw [putl_size]; exact hS, HC⟩
      case measure => simp [intOf]; omega
    · have hml : m = len := by omega
      have HC : Hid (ContG 5 ID.cells xs ar len) := by have := hC.out; rw [hml] at this; exact this
      clear hC hml
      go_wp2_with fail
      go_ret
      exact ⟨rfl, hB, ar, hA.out, by rw [HL.out]; exact hS, by rw [HL.out]; exact HC.out⟩

set_option maxRecDepth 20000 in
set_option maxHeartbeats 1000000 in
theorem tons_any (a : Option Addr) (len cap : Nat) (xs : List ND) (w : World) (hl : xs.length = len) (hp : SlA w 4 ND.cells a xs) (hlen : len ≤ 1048576) :
    Calls Tryz.prog 45 #[.slice a len cap] w fun e w' => e = .returned (.slice (some ⟨w.heap.size, 0, none⟩) len len) ∧ Below w.heap.size w w' ∧ RowG w' w.heap.size 4 85 ND.cells xs := by
  obtain ⟨arr, hsz, hmk⟩ := make_of (P := Tryz.prog) 41 85 4 40 len Tryz.underlying41 (by kernel_rfl) (by omega) hlen w
  have HP : Hid (SlA w 4 ND.cells a xs) := hp
  have HL : Hid (xs.length = len) := hl
  clear hp hl
  go_enter Tryz.func45, Tryz.ntmps45
  go_wp2_with fail
  clear hmk
  go_loopw [4] (fun i wr => ∃ (m : Nat) (ar : Array Value), m ≤ len ∧ i = .int .i64 m ∧ Below w.heap.size w wr ∧ Hid (wr.heap[w.heap.size]? = some (.cells ar 85)) ∧ ar.size = len * 4 ∧ Hid (ContG 4 ND.cells xs ar m)) (fun i _ => len - (intOf i).toNat)
  case atStart => exact ⟨0, arr, Nat.zero_le _, rfl, bw1 _ _, blk_new _ _, hsz, contG_zero _ _ _ _⟩
  case round =>
    obtain ⟨m, ar, hm, rfl, hB, hA, hS, hC⟩ := hrel
    by_cases k1 : m < len
    · obtain ⟨x, hx⟩ : ∃ x, xs[m]? = some x := ⟨xs[m]'(by rw [HL.out]; exact k1), by simp⟩
      obtain ⟨b, off, rfl, hb, hc⟩ := HP.out m x hx
      have c0 : wr.cell? ⟨b, off + m * 4, none⟩ = some (.string x.s) := cell_later hB (hc 0 _ rfl)
      have c1 : wr.cell? ⟨b, off + m * 4 + 1, none⟩ = some (.int .i64 x.reg) := cell_later hB (hc 1 _ rfl)
      have c2 : wr.cell? ⟨b, off + m * 4 + 2, none⟩ = some (.int .i64 x.fr) := cell_later hB (hc 2 _ rfl)
      have c3 : wr.cell? ⟨b, off + m * 4 + 3, none⟩ = some (.int .i64 x.to) := cell_later hB (hc 3 _ rfl)
      have HC : Hid (ContG 4 ND.cells xs (putl ar (m * 4) x.cells) (m + 1)) := contG_step ND.len hC.out hx hS k1
      clear hx hC hc hb
      go_wp2_with fail
      refine (ton_any x _).mono ?_
      rintro e w1 ⟨rfl, hx⟩
      have hA1 : w1.heap[w.heap.size]? = some (.cells ar 85) := blk_later hx hA.out
      replace hB := hB.trans (hx.mono hB.size)
      clear hx c0 c1 c2 c3
      obtain ⟨y0, e0⟩ : ∃ y, w1.cell? ⟨w.heap.size, m * 4, none⟩ = some y := ⟨ar[m * 4]'(by omega), by rw [blk_cell hA1]; simp⟩
      obtain ⟨y1, e1⟩ : ∃ y, w1.cell? ⟨w.heap.size, m * 4 + 1, none⟩ = some y := ⟨ar[m * 4 + 1]'(by omega), by rw [blk_cell hA1]; simp⟩
      obtain ⟨y2, e2⟩ : ∃ y, w1.cell? ⟨w.heap.size, m * 4 + 2, none⟩ = some y := ⟨ar[m * 4 + 2]'(by omega), by rw [blk_cell hA1]; simp⟩
      obtain ⟨y3, e3⟩ : ∃ y, w1.cell? ⟨w.heap.size, m * 4 + 3, none⟩ = some y := ⟨ar[m * 4 + 3]'(by omega), by rw [blk_cell hA1]; simp⟩
      have z := blk_frozen hA1
      have HA1 : Hid (w1.heap[w.heap.size]? = some (.cells ar 85)) := hA1
      clear hA hA1
      go_wp2_with fail
      clear e0 e1 e2 e3 z
      go_roundw
      case rel => exact ⟨m + 1, putl ar (m * 4) x.cells, by omega, by go_num, ((((hB.setCell (p := ⟨w.heap.size, m * 4, none⟩) (Nat.le_refl _) (.string x.s)).setCell (p := ⟨w.heap.size, m * 4 + 1, none⟩) (Nat.le_refl _) (.int .i64 x.reg)).setCell (p := ⟨w.heap.size, m * 4 + 2, none⟩) (Nat.le_refl _) (.int .i64 x.fr)).setCell (p := ⟨w.heap.size, m * 4 + 3, none⟩) (Nat.le_refl _) (.int .i64 x.to)), (blk_set (blk_set (blk_set (blk_set HA1.out (m * 4) (.string x.s)) (m * 4 + 1) (.int .i64 x.reg)) (m * 4 + 2) (.int .i64 x.fr)) (m * 4 + 3) (.int .i64 x.to)), by rw [putl_size]; exact hS, HC⟩
      case measure => simp [intOf]; omega
    · have hml : m = len := by omega
      have HC : Hid (ContG 4 ND.cells xs ar len) := by have := hC.out; rw [hml] at this; exact this
      clear hC hml
      go_wp2_with fail
      go_ret
      exact ⟨rfl, hB, ar, hA.out, by rw [HL.out]; exact hS, by rw [HL.out]; exact HC.out⟩
end Go.Proofs.YtmicnjphlakoaaaGreatDoor
