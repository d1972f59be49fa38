/-
  OWN WORK. The specification's shape: numbers between two, faults, the fields of an instruction.
-/
import Derived.Test.YtmicnjphlakoaaaGreatDoorCDat
namespace Go.Proofs.YtmicnjphlakoaaaGreatDoor
open Go.RowKit
set_option linter.unusedVariables false

set_option maxHeartbeats 400000 in
theorem in_any (x lo hi : Int) (w : World) :
    Calls Tryz.prog 23 #[.int .i64 x, .int .i64 lo, .int .i64 hi] w fun e w' => e = .returned (.bool (inR x lo hi)) ∧ w' = w := by
  by_cases h1 : lo ≤ x
  · by_cases h2 : x ≤ hi
    · go_enter Tryz.func23, Tryz.ntmps23
      go_wp2
      go_ret
      exact ⟨by simp [inR, h1, h2], rfl⟩
    · go_enter Tryz.func23, Tryz.ntmps23
      go_wp2
      go_ret
      exact ⟨by simp [inR, h1, h2], rfl⟩
  · go_enter Tryz.func23, Tryz.ntmps23
    go_wp2
    go_ret
    exact ⟨by simp [inR]; omega, rfl⟩

theorem inR_zero (x : Int) : (x == 0) = (decide (0 ≤ x) && decide (x ≤ 0)) := by
  by_cases h : x = 0
  · subst h; rfl
  · have h' : ¬ (0 ≤ x ∧ x ≤ 0) := by omega
    have : (x == 0) = false := by simpa using h
    rw [this]
    symm
    simpa using h'

/-- A fault, as a value. -/
abbrev FV (c p i : Int) : Value := .agg #[.int .i64 c, .int .i64 p, .int .i64 i]
abbrev FO (c p i : Int) : Obj := .cells #[.int .i64 c, .int .i64 p, .int .i64 i] 27

set_option maxHeartbeats 400000 in
theorem fault_any (c p i : Int) (w : World) :
    Calls Tryz.prog 13 #[.int .i64 c, .int .i64 p, .int .i64 i] w fun e w' => e = .returned (FV c p i) ∧ w' = w.alloc (FO c p i) := by
  go_enter Tryz.func13, Tryz.ntmps13
  go_wp2
  exact bodyPost_ret (v := FV c p i) (by simp [results, Tryz.results13, go_sem]) rfl ⟨rfl, rfl⟩

/-- The nine cells of a proto in a code. -/
structure Cell9 (w : World) (b o : Nat) (f : FC) : Prop where
  c0 : w.cell? ⟨b, o, none⟩ = some (.string f.d.name)
  c1 : w.cell? ⟨b, o + 1, none⟩ = some (.int .i64 f.d.line)
  c2 : w.cell? ⟨b, o + 2, none⟩ = some (.int .i64 f.d.params)
  c3 : w.cell? ⟨b, o + 3, none⟩ = some (.bool f.d.rest)
  c4 : w.cell? ⟨b, o + 4, none⟩ = some (.int .i64 f.d.regs)
  c5 : w.cell? ⟨b, o + 5, none⟩ = some (.slice f.au f.d.ups.length f.cu)
  c6 : w.cell? ⟨b, o + 6, none⟩ = some (.slice f.ac f.d.consts.length f.cc)
  c7 : w.cell? ⟨b, o + 7, none⟩ = some (.slice f.ai f.d.ins.length f.ci)
  c8 : w.cell? ⟨b, o + 8, none⟩ = some (.slice f.an f.d.named.length f.cn)
theorem Cell9.later {w wx : World} {b o : Nat} {f : FC} (hb : Below w.heap.size w wx) (h : Cell9 w b o f) : Cell9 wx b o f :=
  ⟨cell_later hb h.c0, cell_later hb h.c1, cell_later hb h.c2, cell_later hb h.c3, cell_later hb h.c4, cell_later hb h.c5, cell_later hb h.c6, cell_later hb h.c7, cell_later hb h.c8⟩
theorem CodeAt.nine {w : World} {a : Option Addr} {xs : List FC} (h : CodeAt w a xs) {p : Nat} {f : FC} (hp : xs[p]? = some f) : ∃ b off, a = some ⟨b, off, none⟩ ∧ b < w.heap.size ∧ Cell9 w b (off + p * 9) f := by
  obtain ⟨b, off, h1, h2, h3⟩ := h.row p f hp
  exact ⟨b, off, h1, h2, ⟨h3 0 _ rfl, h3 1 _ rfl, h3 2 _ rfl, h3 3 _ rfl, h3 4 _ rfl, h3 5 _ rfl, h3 6 _ rfl, h3 7 _ rfl, h3 8 _ rfl⟩⟩

abbrev CO (s : Value) : Obj := .cells #[s] 31
abbrev PO (f : FC) : Obj := .cells #[.string f.d.name, .int .i64 f.d.line, .int .i64 f.d.params, .bool f.d.rest, .int .i64 f.d.regs, .slice f.au f.d.ups.length f.cu, .slice f.ac f.d.consts.length f.cc, .slice f.ai f.d.ins.length f.ci, .slice f.an f.d.named.length f.cn] 43

set_option maxRecDepth 20000 in
set_option maxHeartbeats 4000000 in
theorem fits_any (b off len cap p : Nat) (f : FC) (role x : Int) (w : World) (hpl : p < len) (hlen : len ≤ 1048576) (hc : Cell9 w b (off + p * 9) f) (hr0 : 0 ≤ f.d.regs) (hr1 : f.d.regs ≤ 250) (ok : f.d.ok) :
    Calls Tryz.prog 41 #[.agg #[.slice (some ⟨b, off, none⟩) len cap], .int .i64 p, .int .i64 role, .int .i64 x] w fun e w' => e = .returned (.bool (fitsB len f.d role x)) ∧ Below w.heap.size w w' := by
  obtain ⟨c0, c1, c2, c3, c4, c5, c6, c7, c8⟩ := hc.later (bw1 w (CO (.slice (some ⟨b, off, none⟩) len cap)))
  obtain ⟨_, lu, lc, li, ln, _, _⟩ := ok
  clear hc
  go_enter Tryz.func41, Tryz.ntmps41
  go_wp2_with (go_at_call 23; refine (in_any _ _ _ _).mono ?_; rintro e w' ⟨rfl, rfl⟩)
  all_goals
    go_ret
    refine ⟨?_, by exact bw2 _ _ _⟩
    simp_all [fitsB, lohi, inR]
    try exact inR_zero x
end Go.Proofs.YtmicnjphlakoaaaGreatDoor
