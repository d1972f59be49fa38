/-
  OWN WORK. Codes: the laws' look at sizes of lists.
-/
import Derived.Test.YtadgbbmoffcdcaaGreatDoorCTo
import Derived.Test.YtadgbbmoffcdcaaGreatDoorSz
namespace Go.Proofs.YtadgbbmoffcdcaaGreatDoor
open Go.RowKit
attribute [local go_sem] run_store_float
set_option linter.unusedVariables false