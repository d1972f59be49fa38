/-
  OWN WORK. The specification's names of instructions.
-/
import Derived.Test.YtfkeklndcjkgcaaGreatDoorLSpA
namespace Go.Proofs.YtfkeklndcjkgcaaGreatDoor
open Go.RowKit
set_option linter.unusedVariables false
set_option linter.unusedSimpArgs false

def nameA : Array Value := (nameT.map fun s => Value.string (sOf s)).toArray
theorem nameA_at (k : Nat) (h : k < 43) : nameA[k]? = some (.string (sOf (nameL (k : Int)))) := by
  have hl : nameT.length = 43 := rfl
  have e : ((k : Int)).toNat = k := by omega
  rw [nameL, e, List.getD_eq_getElem?_getD, List.getElem?_eq_getElem (show k < nameT.length by omega)]
  simp [nameA, List.getElem?_eq_getElem (show k < nameT.length by omega)]
theorem name_at (k : Nat) (h : k < nameA.size) (h' : k < 43) : nameA[k] = .string (sOf (nameL (k : Int))) := by
  have := nameA_at k h'
  rw [Array.getElem?_eq_getElem h] at this
  exact Option.some.inj this

set_option maxRecDepth 20000 in
set_option maxHeartbeats 4000000 in
theorem name_any (op : Int) (h0 : 1 ≤ op) (h1 : op ≤ 42) (w : World) : Calls Tryz.prog 24 #[.int .i64 op] w fun e w' => e = .returned (.string (sOf (nameL op))) ∧ Below w.heap.size w w' := by
  obtain ⟨k, rfl⟩ : ∃ k : Nat, op = (k : Int) := ⟨op.toNat, by omega⟩
  have hk : k < 43 := by omega
  go_enter Tryz.func24, Tryz.ntmps24
  go_wp2_with fail
  go_ret
  exact ⟨congrArg Ending.returned (name_at k hk hk), bw1 _ _⟩
end Go.Proofs.YtfkeklndcjkgcaaGreatDoor
