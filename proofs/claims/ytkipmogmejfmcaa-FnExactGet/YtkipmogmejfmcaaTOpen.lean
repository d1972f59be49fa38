/-
  OWN WORK. Tables: the law's argument opened.
-/
import Derived.Test.YtkipmogmejfmcaaTArg
import Derived.Deep.Slices
import Derived.Deep.Strs
import Derived.DataShut
import Derived.ChangeSame
namespace Go.Proofs.Ytkipmogmejfmcaa
open Go.ChangeShapes Go.WideShapes Go.ChangeAt Go.RowKit
set_option linter.unusedVariables false

theorem spot_none {w : World} {a : Addr} {v : Value} (h : w.cell? a = some v) : a = ⟨a.block, a.off, none⟩ := by
  obtain ⟨b, o, s⟩ := a
  cases s with
  | none => rfl
  | some x =>
    unfold World.cell? at h
    split at h
    · simp at h
    · cases h

section
variable {H : Type} {enc : TypeId × Value → H} {w : World} {base : Nat} {spare : Nat → Bool} {held : Bool}

theorem list5 {α : Type} {cs : List α} (h : cs.length = 5) : ∃ c0 c1 c2 c3 c4, cs = [c0, c1, c2, c3, c4] := by
  match cs, h with
  | [c0, c1, c2, c3, c4], _ => exact ⟨c0, c1, c2, c3, c4, rfl⟩
theorem list11 {α : Type} {cs : List α} (h : cs.length = 11) : ∃ c0 c1 c2 c3 c4 c5 c6 c7 c8 c9 c10, cs = [c0, c1, c2, c3, c4, c5, c6, c7, c8, c9, c10] := by
  match cs, h with
  | [c0, c1, c2, c3, c4, c5, c6, c7, c8, c9, c10], _ => exact ⟨c0, c1, c2, c3, c4, c5, c6, c7, c8, c9, c10, rfl⟩

theorem open_val {fuel : Nat} {cs : List Value} {x : DataW H × List MemPlace} (h : DataW.trod enc Try.prog w base spare held fuel 24 cs = some x) : ∃ v : VD, cs = v.cells ∧ v.ok := by
  obtain ⟨y0, y1, y2, y3, y4, n, _, hl, t0, t1, t2, t3, t4⟩ := trod_struct5 Try.underlying24 h
  have hC : Try.prog.cellsOf 24 = 5 := by kernel_rfl
  have k3 : Try.prog.cellsOf 3 = 1 := by kernel_rfl
  have k2 : Try.prog.cellsOf 2 = 1 := by kernel_rfl
  have kf : Try.prog.cellsOf 22 = 1 := by kernel_rfl
  have ks : Try.prog.cellsOf 9 = 1 := by kernel_rfl
  obtain ⟨c0, c1, c2, c3, c4, rfl⟩ := list5 (hl.trans hC)
  simp only [k3, k2, kf, ks, List.drop_zero, List.drop_succ_cons, List.take_succ_cons, List.take_zero] at t0 t1 t2 t3 t4
  obtain ⟨k, e0, _, wk⟩ := DataW.trod_int Try.underlying3 t0
  obtain ⟨n', e1, _, wn⟩ := DataW.trod_int Try.underlying2 t1
  obtain ⟨f, e2, _, wf⟩ := trod_float Try.underlying22 t2
  obtain ⟨s, e3, _, ws⟩ := DataW.trod_string Try.underlying9 t3
  obtain ⟨r, e4, _, wr⟩ := DataW.trod_int Try.underlying3 t4
  simp only [List.cons.injEq, and_true] at e0 e1 e3 e4
  subst e0 e1 e2 e3 e4
  exact ⟨⟨k, n', f, s, r⟩, rfl, by simpa [Lit.wf] using wf, ws⟩

theorem open_pair {fuel : Nat} {cs : List Value} {x : DataW H × List MemPlace} (h : DataW.trod enc Try.prog w base spare held fuel 135 cs = some x) : ∃ p : PD, cs = p.cells ∧ p.ok := by
  obtain ⟨y0, y1, y2, n, _, hl, t0, t1, t2⟩ := Deep.trod_struct3 Try.underlying135 h
  have hC : Try.prog.cellsOf 135 = 11 := by kernel_rfl
  have k5 : Try.prog.cellsOf 24 = 5 := by kernel_rfl
  have k3 : Try.prog.cellsOf 3 = 1 := by kernel_rfl
  obtain ⟨c0, c1, c2, c3, c4, c5, c6, c7, c8, c9, c10, rfl⟩ := list11 (hl.trans hC)
  simp only [k3, k5, List.drop_zero, List.drop_succ_cons, List.take_succ_cons, List.take_zero] at t0 t1 t2
  obtain ⟨a, ea, ha⟩ := open_val t0
  obtain ⟨b, eb, hb⟩ := open_val t1
  obtain ⟨k, e0, _, wk⟩ := DataW.trod_int Try.underlying3 t2
  simp only [List.cons.injEq, and_true] at e0
  subst e0
  refine ⟨⟨a, b, k⟩, ?_, ha, hb, ?_⟩
  · show _ = a.cells ++ (b.cells ++ [.int .i64 k])
    rw [← ea, ← eb]; rfl
  · exact (Lit.wf_int_iff .i64 k).1 wk

/-- The list of pairs of a table that came in. -/
theorem open_row {fuel : Nat} {sv : Value} {x : DataW H × List MemPlace} (h : DataW.trod enc Try.prog w 0 spare held fuel 48 [sv] = some x) :
    ∃ ps : List PD, TArg w sv ps ∧ (∀ p ∈ ps, p.ok) ∧ ps.length ≤ maxLen := by
  rcases Deep.open_slice Try.underlying48 h with ⟨h0, _⟩ | ⟨a, len, cap, m, n, D, Pl, h0, hb, hl, hm, hmm, hx, hi⟩
  · simp only [List.cons.injEq, and_true] at h0
    exact ⟨[], .inl ⟨none, 0, h0, rfl⟩, by simp, by simp⟩
  · simp only [List.cons.injEq, and_true] at h0
    subst h0
    have hC : Try.prog.cellsOf 135 = 11 := by kernel_rfl
    rw [hC] at hi
    have hlm : len ≤ m := by rw [hmm]; split <;> omega
    by_cases hz : len = 0
    · subst hz
      exact ⟨[], .inl ⟨_, cap, rfl, rfl⟩, by simp, by simp⟩
    · haveI : Inhabited PD := ⟨pd0⟩
      obtain ⟨f, hf⟩ := Deep.choose_lt (α := PD) (n := len) (p := fun i p => p.ok ∧ ∀ j v, p.cells[j]? = some v → w.cell? (a.add (i * 11 + j)) = some v) (fun i hil => by
        obtain ⟨cs, h1, h2⟩ := hi i (by omega)
        obtain ⟨p, rfl, hp⟩ := open_pair h2
        obtain ⟨_, _, h3⟩ := World.cells?_some h1
        refine ⟨p, hp, fun j v hv => ?_⟩
        have hj : j < 11 := by have := (List.getElem?_eq_some_iff.1 hv).1; rw [cells_len] at this; exact this
        rw [← Deep.add_add, h3 j hj]; exact hv)
      have h00 := (hf 0 (by omega)).2 0 (.int .i64 (f 0).key.k) rfl
      have ha : a = ⟨a.block, a.off, none⟩ := spot_none (w := w) (by simpa [Addr.add] using h00)
      have hlt' : a.block < w.heap.size := World.block_lt_of_cell? _ _ (by simpa [Addr.add] using h00)
      refine ⟨(List.range len).map f, .inr ⟨a.block, a.off, cap, ?_, ?_, hlt'⟩, ?_, ?_⟩
      · rw [List.length_map, List.length_range, ← ha]
      · intro i p hip j v hv
        simp only [List.getElem?_map, Option.map_eq_some_iff] at hip
        obtain ⟨i', hi', rfl⟩ := hip
        have hil : i < len := by
          have := (List.getElem?_eq_some_iff.1 hi').1
          simpa using this
        rw [List.getElem?_range hil] at hi'
        cases hi'
        have := (hf i hil).2 j v hv
        rw [ha, Addr.add_lit] at this
        rw [Nat.add_assoc]; exact this
      · intro p hp
        simp only [List.mem_map, List.mem_range] at hp
        obtain ⟨i, hil, rfl⟩ := hp
        exact (hf i hil).1
      · rw [List.length_map, List.length_range]; omega

theorem array2 {α : Type} {cs : Array α} (h : cs.size = 2) : ∃ c0 c1, cs = #[c0, c1] := by
  obtain ⟨l⟩ := cs
  match l, h with
  | [c0, c1], _ => exact ⟨c0, c1, rfl⟩

set_option maxRecDepth 100000 in
theorem open_table {r : Reach} {b0 : Nat} {v : Value} {d : DataW H} {p : List MemPlace} (hv : Value.okWide Try.prog w r b0 50 v) (h : DataW.Trod enc Try.prog w 0 spare held 50 v d p) :
    ∃ (sv : Value) (tu : Int) (ps : List PD), v = .agg #[sv, .int .i64 tu] ∧ TArg w sv ps ∧ (∀ p ∈ ps, p.ok) ∧ ps.length ≤ maxLen ∧ (Lit.int .i64 tu).wf = true := by
  obtain ⟨cs, rfl, hsz⟩ := okWide_struct Try.underlying50 hv
  have hC : Try.prog.cellsOf 50 = 2 := by kernel_rfl
  have k1 : Try.prog.cellsOf 48 = 1 := by kernel_rfl
  have k3 : Try.prog.cellsOf 3 = 1 := by kernel_rfl
  obtain ⟨c0, c1, rfl⟩ := array2 (hsz.trans hC)
  obtain ⟨fuel, hf⟩ := h
  obtain ⟨y0, y1, n, _, _, t0, t1⟩ := trod_struct2 Try.underlying50 hf
  simp only [Value.cells, k1, k3, List.drop_zero, List.drop_succ_cons, List.take_succ_cons, List.take_zero] at t0 t1
  obtain ⟨k, e0, _, wk⟩ := DataW.trod_int Try.underlying3 t1
  simp only [List.cons.injEq, and_true] at e0
  subst e0
  obtain ⟨ps, h1, h2, h3⟩ := open_row t0
  exact ⟨c0, k, ps, rfl, h1, h2, h3, wk⟩
end
end Go.Proofs.Ytkipmogmejfmcaa
