/-
  OWN WORK. The specification's table of roles.
-/
import Derived.Test.YtmicnjphlakoaaaGreatDoorCSpC
namespace Go.Proofs.YtmicnjphlakoaaaGreatDoor
open Go.RowKit
set_option linter.unusedVariables false

abbrev RO (op : Int) : Obj := .cells #[.int .i64 (rl op 0), .int .i64 (rl op 1), .int .i64 (rl op 2), .int .i64 (rl op 3)] 3

set_option maxRecDepth 20000 in
set_option maxHeartbeats 8000000 in
theorem roles_in (op : Int) (w : World) (h0 : 1 ≤ op) (h1 : op ≤ 42) :
    Calls Tryz.prog 39 #[.int .i64 op] w fun e w' => e = .returned (.slice (some ⟨w.heap.size, 0, none⟩) 4 4) ∧ w' = w.alloc (RO op) := by
  have hop := op_cases h0 h1
  clear h0 h1
  rcases hop with rfl | rfl | rfl | rfl | rfl | rfl | rfl | rfl | rfl | rfl | rfl | rfl | rfl | rfl | rfl | rfl | rfl | rfl | rfl | rfl | rfl | rfl | rfl | rfl | rfl | rfl | rfl | rfl | rfl | rfl | rfl | rfl | rfl | rfl | rfl | rfl | rfl | rfl | rfl | rfl | rfl | rfl
  all_goals
    go_enter Tryz.func39, Tryz.ntmps39
    go_wp2
    go_ret
    exact ⟨rfl, rfl⟩

set_option maxRecDepth 20000 in
set_option maxHeartbeats 4000000 in
theorem roles_out (op : Int) (w : World) (h : ¬ (1 ≤ op ∧ op ≤ 42)) :
    Calls Tryz.prog 39 #[.int .i64 op] w fun e w' => e = .returned (.slice none 0 0) ∧ w' = w := by
  go_enter Tryz.func39, Tryz.ntmps39
  go_wp2
  all_goals first
    | (exfalso; omega)
    | (go_ret
       exact ⟨rfl, rfl⟩)

set_option maxHeartbeats 400000 in
theorem fields_any (n : ID) (w : World) :
    Calls Tryz.prog 40 #[IV n] w fun e w' => e = .returned (.slice (some ⟨w.heap.size + 1, 0, none⟩) 4 4) ∧ w' = (w.alloc (.cells #[.int .i64 n.op, .int .i64 n.a, .int .i64 n.b, .int .i64 n.c, .int .i64 n.d] 45)).alloc (.cells #[.int .i64 n.a, .int .i64 n.b, .int .i64 n.c, .int .i64 n.d] 3) := by
  go_enter Tryz.func40, Tryz.ntmps40
  go_wp2
  go_ret
  exact ⟨by first | rfl | simp, rfl⟩
end Go.Proofs.YtmicnjphlakoaaaGreatDoor
