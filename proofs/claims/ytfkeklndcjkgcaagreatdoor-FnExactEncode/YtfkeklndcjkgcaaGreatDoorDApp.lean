/-
  OWN WORK. Lists that grow: one element more behind a row of one's own, whatever the element; the specification's copies of lists.
-/
import Derived.Test.YtfkeklndcjkgcaaGreatDoorCTo
import Derived.OwnWalk
namespace Go.Proofs.YtfkeklndcjkgcaaGreatDoor
open Go.RowKit
attribute [local go_sem] run_store_float
set_option linter.unusedVariables false
set_option linter.unusedSimpArgs false

theorem owns_later {w w' : World} {base : Nat} {e : TypeId} {k : Nat} {sv : Value} {n : Nat} {xs : List Value} (hb : Below w.heap.size w w') (h : w.ownsRow base e k sv n xs) : w'.ownsRow base e k sv n xs := by
  obtain ⟨h1, h2⟩ := h
  refine ⟨h1, ?_⟩
  rcases h2 with h2 | ⟨g, cap, cur, e1, e2, e3, e4⟩
  · exact .inl h2
  · exact .inr ⟨g, cap, cur, e1, e2, blk_later hb e3, e4⟩
theorem owns_ge {w : World} {base : Nat} {e : TypeId} {k : Nat} {sv : Value} {n : Nat} {xs : List Value} (h : w.ownsRow base e k sv n xs) {b : Nat} (hb : sv.ownBlock = some b) : base ≤ b := by
  rcases h.2 with ⟨rfl, _⟩ | ⟨g, cap, cur, rfl, e2, _⟩
  · cases hb
  · cases hb; exact e2
/-- Behind an append the blocks below the row's own are as they were. -/
theorem below_grown {B : Nat} {w0 w w' : World} {sv : Value} {base : Nat} {e : TypeId} {k n : Nat} {xs : List Value} (hB : Below B w0 w) (hsz : B ≤ w.heap.size) (ho : w.ownsRow base e k sv n xs) (hbase : B ≤ base) (hg : w.grownBy w' sv.ownBlock) : Below B w0 w' :=
  ⟨hg.os.trans hB.os, hg.tape.trans hB.tape, hg.output.trans hB.output, Nat.le_trans hB.size hg.size, fun j hj => (hg.block j (by omega) (fun he => by have := owns_ge ho he.symm; omega)).trans (hB.block j hj)⟩

/-- One element more. -/
theorem app_gen (st et : TypeId) (k by' : Nat) (hu : Tryz.prog.underlying st = some (.slice et)) (hc : (Tryz.prog.info? et).map (fun i => (i.zero.map (fun z => z.cells.size), i.size, i.bytes)) = some (some k, k, by')) (hk : 0 < k) (hby : by' ≤ 1000)
    (base : Nat) (w : World) (sv : Value) (n : Nat) (xs news : List Value) (nb : Nat) (ty : TypeId) (ho : w.ownsRow base et k sv n xs) (hn : w.heap[nb]? = some (.cells news.toArray et)) (hl : news.length = k) (h1 : ∀ u ∈ news, u.oneCell' = true) (hlen : n ≤ 2000000) (hb : base ≤ w.heap.size) :
    ∃ g' cap' w', (Builtin.append_ #[st, st] ty #[sv, .slice (some ⟨nb, 0, none⟩) 1 1]).run Tryz.prog w = .ok (.slice (some ⟨g', 0, none⟩) (n + 1) cap') w' ∧ w'.ownsRow base et k (.slice (some ⟨g', 0, none⟩) (n + 1) cap') (n + 1) (xs ++ news) ∧ w.grownBy w' sv.ownBlock := by
  obtain ⟨i, z, hi, hz, e1, e2, e3⟩ : ∃ (i : TypeInfo) (z : Value), Tryz.prog.info? et = some i ∧ i.zero = some z ∧ i.size = k ∧ i.bytes = by' ∧ z.cells.size = k := by
    cases hi : Tryz.prog.info? et with
    | none => rw [hi] at hc; cases hc
    | some i =>
      rw [hi] at hc
      simp only [Option.map_some, Option.some.injEq, Prod.mk.injEq] at hc
      obtain ⟨h1, h2, h3⟩ := hc
      cases hz : i.zero with
      | none => rw [hz] at h1; cases h1
      | some z => rw [hz] at h1; simp at h1; exact ⟨i, z, rfl, hz, h2, h3, h1⟩
  obtain ⟨v', w', hr, ho', hg, _⟩ := run_append_own (P := Tryz.prog) w base st ty et i z k by' hu hi hz e1 e2 e3 hk sv n xs ho ⟨nb, 0, none⟩ 1 1 news (by omega) (fun j u hu => by
      show w.cell? (Addr.add ⟨nb, 0, none⟩ j) = some u
      rw [Addr.add_lit, Nat.zero_add, blk_cell hn]
      simpa using hu) h1 (by unfold maxLen; omega) (by
      have : (n + 1) * by' ≤ 2000001 * 1000 := Nat.mul_le_mul (by omega) hby
      omega) hb
  rcases ho'.2 with ⟨_, h0⟩ | ⟨g', cap', cur, e5, _⟩
  · omega
  · subst e5
    exact ⟨g', cap', w', hr, ho', hg⟩

/-- append in a plain region, its run being known. -/
theorem wpList_append_run {P : Program} {w : World} {ops : Array Oper} {rest : List Oper} {o : Oper} {a : Act} {Q : Exit → Act → World → Prop} (hgd : o.guard = none) (s x : Operand) (t : TypeId)
    (ho : o.op = .call { callee := .builtin .append, args := #[s, x], argTypes := #[t, t] }) (sv xv v' : Value) (w' : World) (hs : a.eval s = sv) (hx : a.eval x = xv) (hrun : (Builtin.append_ #[t, t] o.type #[sv, xv]).run P w = .ok v' w')
    (h : wpList P ops Q rest (a.put o.dst v') w') : wpList P ops Q (o :: rest) a w :=
  wpList_plain hgd fun _ hK => by
    unfold Oper.wp
    simp [execOp, ho, resolve, invoke, builtin, hs, hx, hrun, Result.andThen]
    exact hK _ _ h

def intC (z : Int) : List Value := [.int .i64 z]
theorem intC_len (z : Int) : (intC z).length = 1 := rfl
theorem owns_nil (w : World) (base : Nat) (e : TypeId) (k : Nat) : w.ownsRow base e k (.slice none 0 0) 0 [] := ⟨by simp, .inl ⟨rfl, rfl⟩⟩

end Go.Proofs.YtfkeklndcjkgcaaGreatDoor
