/-
  OWN WORK. A region that draws its order and whose callees lay new memory: walked once, over the class of all later worlds.
-/
import Derived.Test.YtkipmogmejfmcaaSlot
import Derived.Deep.QuietTactic
import Derived.BigQuiet
namespace Go.Proofs.Ytkipmogmejfmcaa
open Go.RowKit
set_option linter.unusedVariables false

/-- A world that lies behind another. -/
structure Lat (w : World) where
  wd : World
  below : Below w.heap.size w wd

theorem lat_some (w : World) : Nonempty (Lat w) := ⟨⟨w, Below.refl _ _⟩⟩

theorem lat_cell {w : World} {a : Addr} {v : Value} (h : w.cell? a = some v) (x : Lat w) : x.wd.cell? a = some v := cell_later x.below h

theorem lat_calls {P : Program} {f : FuncId} {args : Array Value} {w : World} {x : Lat w} {v : Value}
    (h : Calls P f args x.wd fun e w' => e = .returned v ∧ Below x.wd.heap.size x.wd w') : Calls P f args x.wd fun e w' => e = .returned v ∧ ∃ y : Lat w, w' = y.wd :=
  h.mono fun _ w' ⟨he, hb⟩ => ⟨he, ⟨w', x.below.trans (hb.mono x.below.size)⟩, rfl⟩

theorem wp_region_lat {P : Program} {id : Nat} {Q : Exit → Act → World → Prop} {a : Act} {w : World} {l : List Oper} (hm : P.follows .mixedOrders = true) (hB : Region.lexB .any l.toArray = true)
    (h : wpQuiet P l.toArray (fun w' => ∃ x : Lat w, w' = x.wd) (fun a' => ∀ w', (∃ x : Lat w, w' = x.wd) → Q .normal a' w') l a) : (Code.region id l.toArray true).wp P Q a w :=
  wp_region_quiet (C := fun w' => ∃ x : Lat w, w' = x.wd) hm hB ⟨⟨w.drew, (Below.refl _ _).drew⟩, rfl⟩ (by simpa using h)
end Go.Proofs.Ytkipmogmejfmcaa
