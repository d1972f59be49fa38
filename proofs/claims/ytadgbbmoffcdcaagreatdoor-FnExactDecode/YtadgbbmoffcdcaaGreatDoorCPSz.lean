/-
  OWN WORK. Codes: the laws' look at sizes of protos.
-/
import Derived.Test.YtadgbbmoffcdcaaGreatDoorCSz
import Derived.Test.YtadgbbmoffcdcaaGreatDoorCsI
namespace Go.Proofs.YtadgbbmoffcdcaaGreatDoor
open Go.RowKit
attribute [local go_sem] run_store_float
set_option linter.unusedVariables false
set_option linter.unusedSimpArgs false

/-- What is known of a proto's data as it comes in. -/
structure FD.raw (f : FD) : Prop where
  name : f.name.size ≤ maxLen
  lu : f.ups.length ≤ maxLen
  lc : f.consts.length ≤ maxLen
  li : f.ins.length ≤ maxLen
  ln : f.named.length ≤ maxLen
  c : ∀ v ∈ f.consts, v.ok
  n : ∀ v ∈ f.named, v.s.size ≤ maxLen
def szF (f : FD) : Nat := f.ups.length + f.consts.length + f.ins.length + f.named.length

def szL (xs : List FC) : Nat := (xs.map fun x => szF x.d).sum
theorem szL_take {xs : List FC} {m : Nat} {f : FC} (h : xs[m]? = some f) : szL (xs.take (m + 1)) = szL (xs.take m) + szF f.d := by
  unfold szL
  rw [List.take_add_one, h]
  simp