/-
  OWN WORK. The program's shape: its table of roles, the fields of an instruction and their bounds.
-/
import Derived.Test.YtmicnjphlakoaaaGreatDoorCImB
namespace Go.Proofs.YtmicnjphlakoaaaGreatDoor
open Go.RowKit
attribute [local go_sem] run_store_float
set_option linter.unusedVariables false
set_option linter.unusedSimpArgs false

/-- The program's table. -/
def layT : List (List Int) :=
  [[0, 0, 0, 0], [1, 0, 0, 0], [2, 0, 0, 0], [0, 0, 0, 0], [20, 3, 0, 0], [20, 12, 0, 0], [21, 12, 0, 0], [20, 15, 0, 0], [15, 12, 0, 0], [20, 4, 0, 0], [4, 12, 0, 0], [20, 5, 0, 0],
   [20, 0, 0, 0], [14, 12, 12, 0], [14, 12, 13, 0], [20, 12, 12, 0], [12, 12, 12, 0], [20, 7, 12, 0], [20, 8, 12, 12], [6, 0, 0, 0], [12, 6, 0, 0], [12, 6, 0, 0],
   [22, 0, 0, 0], [16, 12, 0, 0], [16, 13, 0, 0], [20, 13, 0, 0], [20, 16, 9, 0], [22, 16, 0, 0], [22, 12, 13, 0], [13, 0, 0, 0], [12, 0, 0, 0], [6, 11, 0, 0],
   [0, 0, 0, 0], [10, 0, 0, 0], [10, 0, 0, 0], [12, 13, 0, 0], [0, 0, 0, 0], [17, 0, 0, 0], [17, 6, 0, 0], [17, 6, 0, 0], [18, 0, 0, 0], [19, 6, 22, 0], [23, 0, 0, 0]]
def li (i j : Nat) : Int := (layT.getD i []).getD j 0
/-- The table lies in memory. -/
def LayAt (w : World) : Prop := ∀ i j, i < 43 → j < 4 → w.cell? ⟨2, i * 4 + j, none⟩ = some (.int .i64 (li i j))
theorem LayAt.later {w wx : World} (hb : Below w.heap.size w wx) (h : LayAt w) : LayAt wx := fun i j hi hj => cell_later hb (h i j hi hj)

/-- The specification's number of one of the program's roles. -/
def convT : List Int := [0, 11, 12, 7, 8, 9, 10, 15, 16, 17, 13, 14, 2, 3, 4, 5, 6, 18, 19, 20, 1, 1, 1, 21]
def conv (r : Nat) : Int := convT.getD r 0
theorem lay_fits : ∀ op : Fin 43, 1 ≤ op.val → ∀ j : Fin 4, 0 ≤ li op.val j.val ∧ li op.val j.val < 24 ∧ conv (li op.val j.val).toNat = rl (op.val : Int) j.val := by decide +kernel

abbrev F8 (k : Nat) (n : ID) : Value := .agg #[.int .i64 (li k 0), .int .i64 n.a, .int .i64 (li k 1), .int .i64 n.b, .int .i64 (li k 2), .int .i64 n.c, .int .i64 (li k 3), .int .i64 n.d]

set_option maxRecDepth 20000 in
set_option maxHeartbeats 2000000 in
theorem fieldsof_any (n : ID) (k : Nat) (w : World) (hk : n.op = k) (h1 : k < 43) (hl : LayAt w) :
    Calls Tryz.prog 74 #[IV n] w fun e w' => e = .returned (F8 k n) ∧ Below w.heap.size w w' := by
  have hx := bw2 w (.cells #[.int .i64 n.op, .int .i64 n.a, .int .i64 n.b, .int .i64 n.c, .int .i64 n.d] 45) (.cells #[.int .i64 0, .int .i64 0, .int .i64 0, .int .i64 0, .int .i64 0, .int .i64 0, .int .i64 0, .int .i64 0] 145)
  have l0 := cell_later hx (show w.cell? ⟨2, k * 4, none⟩ = some (.int .i64 (li k 0)) from hl k 0 h1 (by omega))
  have l1 := cell_later hx (hl k 1 h1 (by omega))
  have l2 := cell_later hx (hl k 2 h1 (by omega))
  have l3 := cell_later hx (hl k 3 h1 (by omega))
  clear hx hl
  obtain ⟨op, na, nb, nc, nd⟩ := n
  simp only at hk l0 l1 l2 l3
  subst hk
  go_enter Tryz.func74, Tryz.ntmps74
  go_wp2_with fail
  exact bodyPost_ret (v := F8 k ⟨(k : Int), na, nb, nc, nd⟩) (by simp [results, Tryz.results74, go_sem]) rfl ⟨rfl, bw3 _ _ _ _⟩

theorem r_cases {r : Nat} (h : r < 24) : r = 0 ∨ r = 1 ∨ r = 2 ∨ r = 3 ∨ r = 4 ∨ r = 5 ∨ r = 6 ∨ r = 7 ∨ r = 8 ∨ r = 9 ∨ r = 10 ∨ r = 11 ∨ r = 12 ∨ r = 13 ∨ r = 14 ∨ r = 15 ∨ r = 16 ∨ r = 17 ∨ r = 18 ∨ r = 19 ∨ r = 20 ∨ r = 21 ∨ r = 22 ∨ r = 23 := by omega
theorem ret_two {a b c d : Int} (h1 : a = c) (h2 : b = d) : Ending.returned (.tuple #[.int .i64 a, .int .i64 b]) = .returned (.tuple #[.int .i64 c, .int .i64 d]) := by rw [h1, h2]

set_option maxRecDepth 20000 in
set_option maxHeartbeats 8000000 in
theorem bounds_any (r : Nat) (b off len cap p : Nat) (f : FC) (w : World) (hr : r < 24) (hpl : p < len) (hlen : len ≤ 1048576) (hc : Cell9 w b (off + p * 9) f) (hr0 : 0 ≤ f.d.regs) (hr1 : f.d.regs ≤ 250) (ok : f.d.ok) :
    Calls Tryz.prog 75 #[.int .i64 r, .agg #[.slice (some ⟨b, off, none⟩) len cap], .int .i64 p] w fun e w' => e = .returned (.tuple #[.int .i64 (lohi len f.d (conv r)).1, .int .i64 (lohi len f.d (conv r)).2]) ∧ Below w.heap.size w w' := by
  obtain ⟨c0, c1, c2, c3, c4, c5, c6, c7, c8⟩ := hc.later (bw1 w (CO (.slice (some ⟨b, off, none⟩) len cap)))
  obtain ⟨on, lu, lc, lli, ln, _, _⟩ := ok
  clear hc on ln
  have hcs := r_cases hr
  clear hr
  rcases hcs with rfl | rfl | rfl | rfl | rfl | rfl | rfl | rfl | rfl | rfl | rfl | rfl | rfl | rfl | rfl | rfl | rfl | rfl | rfl | rfl | rfl | rfl | rfl | rfl
  all_goals
    go_enter Tryz.func75, Tryz.ntmps75
    go_wp2_with fail
    try (go_quiet (fail); go_wp2_with fail)
    refine bodyPost_ret ?_ rfl ⟨rfl, ?_⟩
    · simp [results, Tryz.results75, go_sem, lohi, conv, convT]
    · first | exact bw2 _ _ _ | exact (bw2 _ _ _).trans (below_dr _ _ _)
end Go.Proofs.YtmicnjphlakoaaaGreatDoor
