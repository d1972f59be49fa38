/-
  OWN WORK. The contracts of the program's validity: unusedEmpty, termOf, ValueOk.
-/
import Derived.Test.YtadgbbmoffcdcaaVal
namespace Go.Proofs.Ytadgbbmoffcdcaa
open Go.RowKit
attribute [local go_sem] run_store_float
attribute [local go_sem] run_equalIn_float
set_option linter.unusedVariables false

def ue (k n : Int) (f : Nat) (s : ByteArray) (r : Int) : Bool := zr (k == 1 || k == 2 || k == 8) (k == 3) (k == 4) (k == 5 || k == 6 || k == 7) n f s r

theorem vok_of_ue {k n : Int} {f : Nat} {s : ByteArray} {r : Int} (h : ue k n f s r = false) : vok k n f s r = false := by
  unfold vok
  repeat' split
  all_goals simp_all [ue]
  rename_i h5
  rcases h5 with rfl | rfl | rfl <;> simp_all