/-
  OWN WORK. The contracts of the makers of answers.
-/
import Derived.Test.YtmicnjphlakoaaaGreatDoorVal
namespace Go.Proofs.YtmicnjphlakoaaaGreatDoor
open Go.RowKit
attribute [local go_sem] run_store_float
set_option linter.unusedVariables false

abbrev RV (c k n : Int) (f : Nat) (s : ByteArray) (r : Int) : Value := .agg #[.int .i64 c, .int .i64 k, .int .i64 n, .float .f64 f, .string s, .int .i64 r]
def b01 (b : Bool) : Int := if b then 1 else 0

end Go.Proofs.YtmicnjphlakoaaaGreatDoor
