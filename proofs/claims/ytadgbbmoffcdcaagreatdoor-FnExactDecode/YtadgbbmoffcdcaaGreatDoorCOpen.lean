/-
  OWN WORK. Codes: the law's argument opened.
-/
import Derived.Test.YtadgbbmoffcdcaaGreatDoorCPTo
import Derived.Deep.Slices
import Derived.Deep.Strs
import Derived.DataShut
import Derived.ChangeSame
namespace Go.Proofs.YtadgbbmoffcdcaaGreatDoor
open Go.ChangeShapes Go.WideShapes Go.ChangeAt Go.RowKit
set_option linter.unusedVariables false

theorem spot_none {w : World} {a : Addr} {v : Value} (h : w.cell? a = some v) : a = ⟨a.block, a.off, none⟩ := by
  obtain ⟨b, o, s⟩ := a
  cases s with
  | none => rfl
  | some x =>
    unfold World.cell? at h
    split at h
    · simp at h
    · cases h
theorem list1 {α : Type} {cs : List α} (h : cs.length = 1) : ∃ c0, cs = [c0] := by
  match cs, h with
  | [c0], _ => exact ⟨c0, rfl⟩
theorem list2 {α : Type} {cs : List α} (h : cs.length = 2) : ∃ c0 c1, cs = [c0, c1] := by
  match cs, h with
  | [c0, c1], _ => exact ⟨c0, c1, rfl⟩
theorem list4 {α : Type} {cs : List α} (h : cs.length = 4) : ∃ c0 c1 c2 c3, cs = [c0, c1, c2, c3] := by
  match cs, h with
  | [c0, c1, c2, c3], _ => exact ⟨c0, c1, c2, c3, rfl⟩
theorem list5 {α : Type} {cs : List α} (h : cs.length = 5) : ∃ c0 c1 c2 c3 c4, cs = [c0, c1, c2, c3, c4] := by
  match cs, h with
  | [c0, c1, c2, c3, c4], _ => exact ⟨c0, c1, c2, c3, c4, rfl⟩
theorem list9 {α : Type} {cs : List α} (h : cs.length = 9) : ∃ c0 c1 c2 c3 c4 c5 c6 c7 c8, cs = [c0, c1, c2, c3, c4, c5, c6, c7, c8] := by
  match cs, h with
  | [c0, c1, c2, c3, c4, c5, c6, c7, c8], _ => exact ⟨c0, c1, c2, c3, c4, c5, c6, c7, c8, rfl⟩
theorem array1 {α : Type} {cs : Array α} (h : cs.size = 1) : ∃ c0, cs = #[c0] := by
  obtain ⟨l⟩ := cs
  match l, h with
  | [c0], _ => exact ⟨c0, rfl⟩

section
variable {H : Type} {enc : TypeId × Value → H} {w : World} {base : Nat} {spare : Nat → Bool} {held : Bool}

theorem k_int : Tryz.prog.cellsOf 3 = 1 := by kernel_rfl
theorem k_str : Tryz.prog.cellsOf 9 = 1 := by kernel_rfl
theorem k_bool : Tryz.prog.cellsOf 4 = 1 := by kernel_rfl

/-- A list that came in, by what its elements are. -/
theorem open_sl {α : Type} (x0 : α) (cells : α → List Value) (k : Nat) (P : α → Prop) (st et : TypeId) (hu : Tryz.prog.underlying st = some (.slice et)) (hk : Tryz.prog.cellsOf et = k) (hk0 : 0 < k) (hlen : ∀ x, (cells x).length = k)
    (ho : ∀ (fuel : Nat) (cs : List Value) (x : DataW H × List MemPlace), DataW.trod enc Tryz.prog w 0 spare held fuel et cs = some x → ∃ v, cs = cells v ∧ P v)
    {fuel : Nat} {sv : Value} {x : DataW H × List MemPlace} (h : DataW.trod enc Tryz.prog w 0 spare held fuel st [sv] = some x) :
    ∃ (a : Option Addr) (cap : Nat) (xs : List α), sv = .slice a xs.length cap ∧ SlA w k cells a xs ∧ (∀ v ∈ xs, P v) ∧ xs.length ≤ maxLen := by
  rcases Deep.open_slice hu h with ⟨h0, _⟩ | ⟨a, len, cap, m, n, D, Pl, h0, hb, hl, hm, hmm, hx, hi⟩
  · simp only [List.cons.injEq, and_true] at h0
    exact ⟨none, 0, [], h0, SlA.nil _ _ _ _, by simp, by simp⟩
  · simp only [List.cons.injEq, and_true] at h0
    subst h0
    rw [hk] at hi
    have hlm : len ≤ m := by rw [hmm]; split <;> omega
    by_cases hz : len = 0
    · subst hz
      exact ⟨some a, cap, [], rfl, SlA.nil _ _ _ _, by simp, by simp⟩
    · haveI : Inhabited α := ⟨x0⟩
      obtain ⟨f, hf⟩ := Deep.choose_lt (α := α) (n := len) (p := fun i p => P p ∧ ∀ j v, (cells p)[j]? = some v → w.cell? (a.add (i * k + j)) = some v) (fun i hil => by
        obtain ⟨cs, h1, h2⟩ := hi i (by omega)
        obtain ⟨p, rfl, hp⟩ := ho _ _ _ h2
        obtain ⟨_, _, h3⟩ := World.cells?_some h1
        refine ⟨p, hp, fun j v hv => ?_⟩
        have hj : j < k := by have := (List.getElem?_eq_some_iff.1 hv).1; rw [hlen] at this; exact this
        rw [← Deep.add_add, h3 j hj]; exact hv)
      have h1 : (cells (f 0))[0]? = some ((cells (f 0))[0]'(by rw [hlen]; exact hk0)) := List.getElem?_eq_getElem _
      have h00 := (hf 0 (by omega)).2 0 _ h1
      have ha : a = ⟨a.block, a.off, none⟩ := spot_none (w := w) (by simpa [Addr.add] using h00)
      have hlt' : a.block < w.heap.size := World.block_lt_of_cell? _ _ (by simpa [Addr.add] using h00)
      refine ⟨some a, cap, (List.range len).map f, ?_, ?_, ?_, ?_⟩
      · rw [List.length_map, List.length_range]
      · intro i p hip
        simp only [List.getElem?_map, Option.map_eq_some_iff] at hip
        obtain ⟨i', hi', rfl⟩ := hip
        have hil : i < len := by
          have := (List.getElem?_eq_some_iff.1 hi').1
          simpa using this
        rw [List.getElem?_range hil] at hi'
        cases hi'
        refine ⟨a.block, a.off, by rw [← ha], hlt', fun j v hv => ?_⟩
        have := (hf i hil).2 j v hv
        rw [ha, Addr.add_lit] at this
        rw [Nat.add_assoc]; exact this
      · intro p hp
        simp only [List.mem_map, List.mem_range] at hp
        obtain ⟨i, hil, rfl⟩ := hp
        exact (hf i hil).1
      · rw [List.length_map, List.length_range]; omega