/-
  OWN WORK. Rows of bytes that grow.
-/
import Derived.Test.YtfkeklndcjkgcaaGreatDoorDApp
import Derived.Lib.UnsafeStr
namespace Go.Proofs.YtfkeklndcjkgcaaGreatDoor
open Go.RowKit
set_option linter.unusedVariables false
set_option linter.unusedSimpArgs false

theorem bc_app (a b : List UInt8) : Lib.byteCells (a ++ b) = Lib.byteCells a ++ Lib.byteCells b := by simp [Lib.byteCells]
theorem bc_one (c : UInt8) : Lib.byteCells [c] = [.int .u8 (c.toNat : Int)] := rfl

theorem bc_cell (l : List UInt8) : ∀ v ∈ Lib.byteCells l, v.oneCell' = true := by
  intro v hv
  obtain ⟨b, _, rfl⟩ := List.mem_map.1 hv
  rfl

/-- A row of bytes of one's own. -/
def BRow (w : World) (base : Nat) (sv : Value) (l : List UInt8) : Prop := w.ownsRow base 5 1 sv l.length (Lib.byteCells l)
theorem BRow.later {w w' : World} {base : Nat} {sv : Value} {l : List UInt8} (hb : Below w.heap.size w w') (h : BRow w base sv l) : BRow w' base sv l := owns_later hb h
theorem BRow.nil (w : World) (base : Nat) : BRow w base (.slice none 0 0) [] := owns_nil _ _ _ _
theorem BRow.val {w : World} {base : Nat} {sv : Value} {l : List UInt8} (h : BRow w base sv l) : ∃ a cap, sv = .slice a l.length cap := by
  rcases h.2 with ⟨rfl, h0⟩ | ⟨g, cap, cur, rfl, _⟩
  · exact ⟨none, 0, by rw [h0]⟩
  · exact ⟨_, _, rfl⟩

theorem byte_info : ∃ i : TypeInfo, Tryz.prog.info? 5 = some i ∧ i.zero = some (.int .u8 0) ∧ i.size = 1 ∧ i.bytes = 1 := by
  have hc : (Tryz.prog.info? 5).map (fun i => (i.zero, i.size, i.bytes)) = some (some (.int .u8 0), 1, 1) := by kernel_rfl
  cases hi : Tryz.prog.info? 5 with
  | none => rw [hi] at hc; cases hc
  | some i =>
    rw [hi] at hc
    simp only [Option.map_some, Option.some.injEq, Prod.mk.injEq] at hc
    exact ⟨i, rfl, hc.1, hc.2.1, hc.2.2⟩

/-- Bytes more, off a row elsewhere. -/
theorem app_bytes (base : Nat) (w : World) (sv : Value) (l m : List UInt8) (p : Addr) (cap : Nat) (ty : TypeId) (ho : BRow w base sv l) (hn : ∀ j u, (Lib.byteCells m)[j]? = some u → w.cell? (p.add j) = some u) (hm : 0 < m.length) (hlen : l.length + m.length ≤ 1000000000000) (hb : base ≤ w.heap.size) :
    ∃ g' cap' w', (Builtin.append_ #[33, 33] ty #[sv, .slice (some p) m.length cap]).run Tryz.prog w = .ok (.slice (some ⟨g', 0, none⟩) (l.length + m.length) cap') w' ∧ BRow w' base (.slice (some ⟨g', 0, none⟩) (l.length + m.length) cap') (l ++ m) ∧ w.grownBy w' sv.ownBlock := by
  obtain ⟨i, hi, hz, e1, e2⟩ := byte_info
  obtain ⟨v', w', hr, ho', hg, _⟩ := run_append_own (P := Tryz.prog) w base 33 ty 5 i (.int .u8 0) 1 1 Tryz.underlying33 hi hz e1 e2 rfl (by omega) sv l.length (Lib.byteCells l) ho p m.length cap (Lib.byteCells m) (by rw [Lib.byteCells_length]; omega) hn (bc_cell m) (by unfold maxLen; omega) (by omega) hb
  rcases ho'.2 with ⟨_, h0⟩ | ⟨g', cap', cur, e5, _⟩
  · omega
  · subst e5
    refine ⟨g', cap', w', hr, ?_, hg⟩
    unfold BRow
    rw [bc_app, List.length_append]
    exact ho'

/-- One byte more, off a new block. -/
theorem app_byte (base : Nat) (w : World) (sv : Value) (l : List UInt8) (c : UInt8) (z : Int) (hz : z = (c.toNat : Int)) (ty : TypeId) (ho : BRow w base sv l) (hlen : l.length ≤ 900000000000) (hb : base ≤ w.heap.size) :
    ∃ sv' w', (Builtin.append_ #[33, 33] ty #[sv, .slice (some ⟨w.heap.size, 0, none⟩) 1 1]).run Tryz.prog (w.alloc (.cells #[.int .u8 z] 5)) = .ok sv' w' ∧ BRow w' base sv' (l ++ [c]) ∧ (w.alloc (.cells #[.int .u8 z] 5)).grownBy w' sv.ownBlock := by
  have hy := bw1 w (.cells #[.int .u8 z] 5)
  obtain ⟨g', cap', w', h1, h2, h3⟩ := app_bytes base (w.alloc (.cells #[.int .u8 z] 5)) sv l [c] ⟨w.heap.size, 0, none⟩ 1 ty (ho.later hy) (fun j u hu => by
    rw [Addr.add_lit, Nat.zero_add, blk_cell (blk_new _ _)]
    rw [bc_one, ← hz] at hu
    simpa using hu) (by simp) (by simp; omega) (by simp; omega)
  exact ⟨_, w', h1, h2, h3⟩
theorem BRow.below {B : Nat} {w0 w w' : World} {sv : Value} {l : List UInt8} {base : Nat} (hB : Below B w0 w) (hsz : B ≤ w.heap.size) (ho : BRow w base sv l) (hbase : B ≤ base) (hg : w.grownBy w' sv.ownBlock) : Below B w0 w' := below_grown hB hsz ho hbase hg
end Go.Proofs.YtfkeklndcjkgcaaGreatDoor
