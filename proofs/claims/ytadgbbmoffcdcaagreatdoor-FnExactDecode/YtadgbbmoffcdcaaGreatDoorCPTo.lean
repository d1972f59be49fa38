/-
  OWN WORK. Codes: the laws' copies of protos and codes.
-/
import Derived.Test.YtadgbbmoffcdcaaGreatDoorCPSz
namespace Go.Proofs.YtadgbbmoffcdcaaGreatDoor
open Go.RowKit
attribute [local go_sem] run_store_float
set_option linter.unusedVariables false
set_option linter.unusedSimpArgs false

/-- A proto whose lists are blocks of their own, none below a bound. -/
structure FC.own (lo : Nat) (w : World) (x : FC) : Prop where
  u : ∃ g, lo ≤ g ∧ x.au = some ⟨g, 0, none⟩ ∧ RowG w g 2 54 UD.cells x.d.ups
  c : ∃ g, lo ≤ g ∧ x.ac = some ⟨g, 0, none⟩ ∧ RowG w g 5 57 VD.cells x.d.consts
  i : ∃ g, lo ≤ g ∧ x.ai = some ⟨g, 0, none⟩ ∧ RowG w g 5 60 ID.cells x.d.ins
  n : ∃ g, lo ≤ g ∧ x.an = some ⟨g, 0, none⟩ ∧ RowG w g 4 62 ND.cells x.d.named
theorem FC.own.later {lo : Nat} {w wx : World} {x : FC} (hb : Below w.heap.size w wx) (h : x.own lo w) : x.own lo wx :=
  ⟨h.u.imp fun g k => ⟨k.1, k.2.1, k.2.2.later hb⟩, h.c.imp fun g k => ⟨k.1, k.2.1, k.2.2.later hb⟩, h.i.imp fun g k => ⟨k.1, k.2.1, k.2.2.later hb⟩, h.n.imp fun g k => ⟨k.1, k.2.1, k.2.2.later hb⟩⟩
theorem FC.own.set {lo q : Nat} {w : World} {x : FC} (h : x.own lo w) (hq : q < lo) (j : Nat) (v : Value) : x.own lo (w.setCell ⟨q, j, none⟩ v) :=
  ⟨h.u.imp fun g k => ⟨k.1, k.2.1, k.2.2.set (by omega) j v⟩, h.c.imp fun g k => ⟨k.1, k.2.1, k.2.2.set (by omega) j v⟩, h.i.imp fun g k => ⟨k.1, k.2.1, k.2.2.set (by omega) j v⟩, h.n.imp fun g k => ⟨k.1, k.2.1, k.2.2.set (by omega) j v⟩⟩
theorem FC.own.lie {lo : Nat} {w : World} {x : FC} (h : x.own lo w) : x.lie w := by
  obtain ⟨⟨g1, _, e1, r1⟩, ⟨g2, _, e2, r2⟩, ⟨g3, _, e3, r3⟩, ⟨g4, _, e4, r4⟩⟩ := h
  exact ⟨e1 ▸ r1.at, e2 ▸ r2.at, e3 ▸ r3.at, e4 ▸ r4.at⟩
theorem FC.own.mono {lo lo' : Nat} {w : World} {x : FC} (h : x.own lo w) (hl : lo' ≤ lo) : x.own lo' w :=
  ⟨h.u.imp fun g k => ⟨by omega, k.2⟩, h.c.imp fun g k => ⟨by omega, k.2⟩, h.i.imp fun g k => ⟨by omega, k.2⟩, h.n.imp fun g k => ⟨by omega, k.2⟩⟩

theorem FC.len (x : FC) : x.cells.length = 9 := rfl
theorem contG_snoc {α : Type} {k : Nat} {cells : α → List Value} {ys : List α} {ar : Array Value} {m len : Nat} (y : α) (hk : ∀ x, (cells x).length = k) (h : ContG k cells ys ar m) (hl : ys.length = m) (hs : ar.size = len * k) (hm : m < len) : ContG k cells (ys ++ [y]) (putl ar (m * k) (cells y)) (m + 1) := by
  have h' : ContG k cells (ys ++ [y]) ar m := by
    intro i q hi hq
    rw [List.getElem?_append_left (by omega)] at hq
    exact h i q hi hq
  exact contG_step hk h' (by rw [List.getElem?_append_right (by omega)]; simp [hl]) hs hm
theorem map_snoc {xs ys : List FC} {m : Nat} {f y : FC} (h : ys.map FC.d = (xs.take m).map FC.d) (hf : xs[m]? = some f) (hy : y.d = f.d) : (ys ++ [y]).map FC.d = (xs.take (m + 1)).map FC.d := by
  rw [List.take_add_one, hf, List.map_append, List.map_append, h]
  simp [hy]

theorem code_of {w : World} {g : Nat} {xs ys : List FC} (hd : ys.map FC.d = xs.map FC.d) (hr : RowG w g 9 42 FC.cells ys) (ho : ∀ y ∈ ys, y.own (g + 1) w) (hok : ∀ x ∈ xs, x.d.ok) (hlen : xs.length ≤ 1048576) (hall : (xs.map fun x => x.d.ins.length).sum ≤ 1048576) : CodeAt w (some ⟨g, 0, none⟩) ys := by
  refine ⟨hr.at, fun y hy => (ho y hy).lie, fun y hy => ?_, ?_, ?_⟩
  · have hm : y.d ∈ ys.map FC.d := List.mem_map.2 ⟨y, hy, rfl⟩
    rw [hd] at hm
    obtain ⟨x, hx, he⟩ := List.mem_map.1 hm
    rw [← he]; exact hok x hx
  · have h := congrArg List.length hd
    simp only [List.length_map] at h
    omega
  · have h1 : ∀ l : List FC, (l.map fun x => x.d.ins.length) = (l.map FC.d).map fun f => f.ins.length := fun l => by rw [List.map_map]; rfl
    rw [h1, hd, ← h1]; exact hall