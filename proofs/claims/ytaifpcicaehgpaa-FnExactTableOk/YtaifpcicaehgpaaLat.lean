/-
  OWN WORK. A region that draws its order and whose callees lay new memory: walked once, over the class of all later worlds.
-/
import Derived.Test.YtaifpcicaehgpaaSlot
import Derived.Deep.QuietTactic
import Derived.BigQuiet
namespace Go.Proofs.Ytaifpcicaehgpaa
open Go.RowKit
set_option linter.unusedVariables false

open Classical in
/-- A world that lies behind another: whatever one names. -/
noncomputable def lat (w x : World) : World := if Below w.heap.size w x then x else w

theorem lat_below (w x : World) : Below w.heap.size w (lat w x) := by
  unfold lat
  split
  · assumption
  · exact Below.refl _ _
theorem lat_of {w x : World} (h : Below w.heap.size w x) : lat w x = x := by unfold lat; rw [if_pos h]

theorem lat_cell {w : World} {a : Addr} {v : Value} (h : w.cell? a = some v) (x : World) : (lat w x).cell? a = some v := cell_later (lat_below w x) h

theorem lat_calls {P : Program} {f : FuncId} {args : Array Value} {w x : World} {v : Value}
    (h : Calls P f args (lat w x) fun e w' => e = .returned v ∧ Below (lat w x).heap.size (lat w x) w') : Calls P f args (lat w x) fun e w' => e = .returned v ∧ ∃ y, w' = lat w y :=
  h.mono fun _ w' ⟨he, hb⟩ => ⟨he, w', (lat_of ((lat_below w x).trans (hb.mono (lat_below w x).size))).symm⟩

theorem wp_region_lat {P : Program} {id : Nat} {Q : Exit → Act → World → Prop} {a : Act} {w : World} {l : List Oper} (hm : P.follows .mixedOrders = true) (hB : Region.lexB .any l.toArray = true)
    (h : wpQuiet P l.toArray (fun w' => ∃ x, w' = lat w x) (fun a' => ∀ w', (∃ x, w' = lat w x) → Q .normal a' w') l a) : (Code.region id l.toArray true).wp P Q a w :=
  wp_region_quiet (C := fun w' => ∃ x, w' = lat w x) hm hB ⟨w.drew, (lat_of ((Below.refl _ _).drew)).symm⟩ (by simpa using h)
end Go.Proofs.Ytaifpcicaehgpaa
