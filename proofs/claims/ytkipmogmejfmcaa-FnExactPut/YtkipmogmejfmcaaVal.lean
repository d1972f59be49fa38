/-
  OWN WORK. The contracts of the small functions on values: sizes, copies, validity.
-/
import Derived.Test.YtkipmogmejfmcaaBase
namespace Go.Proofs.Ytkipmogmejfmcaa
open Go.RowKit
attribute [local go_sem] run_store_float
set_option linter.unusedVariables false

/-- A value of the document, as cells. -/
abbrev VV (k n : Int) (f : Nat) (s : ByteArray) (r : Int) : Value := .agg #[.int .i64 k, .int .i64 n, .float .f64 f, .string s, .int .i64 r]
abbrev VO (k n : Int) (f : Nat) (s : ByteArray) (r : Int) : Obj := .cells #[.int .i64 k, .int .i64 n, .float .f64 f, .string s, .int .i64 r] 27

/-- What is known of the cells of a value that came in. -/
def VW (k n : Int) (f : Nat) (s : ByteArray) (r : Int) : Prop := (Lit.int .i64 k).wf = true ∧ (Lit.int .i64 n).wf = true ∧ (Lit.float .f64 f).wf = true ∧ s.size ≤ maxLen ∧ (Lit.int .i64 r).wf = true

theorem bw1 (w : World) (o : Obj) : Below w.heap.size w (w.alloc o) := (Below.refl _ _).alloc (Nat.le_refl _) o
theorem bw2 (w : World) (o p : Obj) : Below w.heap.size w ((w.alloc o).alloc p) := (bw1 w o).alloc (by simp) p
theorem bw3 (w : World) (o p q : Obj) : Below w.heap.size w (((w.alloc o).alloc p).alloc q) := (bw2 w o p).alloc (by simp; omega) q

def fz (f : Nat) : Bool := FloatKind.f64.format.order f 0 == some .eq

set_option maxHeartbeats 400000 in
theorem sz_any (k n : Int) (f : Nat) (s : ByteArray) (r l : Int) (w : World) (hs : s.size ≤ maxLen) (h0 : 0 ≤ l) (h1 : l ≤ 1048576) :
    Calls Try.prog 15 #[VV k n f s r, .int .i64 l] w fun e w' => e = .returned (.int .i64 (if l - s.size < 0 then -1 else l - s.size)) ∧ Below w.heap.size w w' := by
  unfold maxLen at hs
  by_cases hc : l - s.size < 0
  · go_enter Try.func15, Try.ntmps15
    go_wp2
    go_ret
    exact ⟨by first | rfl | rw [if_pos hc], bw1 _ _⟩
  · go_enter Try.func15, Try.ntmps15
    go_wp2
    go_ret
    exact ⟨by first | rfl | rw [if_neg hc], bw1 _ _⟩

set_option maxHeartbeats 400000 in
theorem to_any (k n : Int) (f : Nat) (s : ByteArray) (r : Int) (w : World) :
    Calls Try.prog 17 #[VV k n f s r] w fun e w' => e = .returned (VV k n f s r) ∧ Below w.heap.size w w' := by
  go_enter Try.func17, Try.ntmps17
  go_wp2
  exact bodyPost_ret (v := VV k n f s r) (by simp [results, Try.results17, go_sem]) rfl ⟨rfl, bw3 _ _ _ _⟩

/-- What 'l1zero' tells. -/
def zr (a b c d : Bool) (n : Int) (f : Nat) (s : ByteArray) (r : Int) : Bool := (a || n == 0) && (b || fz f) && (c || s.toList.isEmpty) && (d || r == 0)

set_option maxHeartbeats 400000 in
theorem zero_any (k n : Int) (f : Nat) (s : ByteArray) (r : Int) (a b c d : Bool) (w : World) :
    Calls Try.prog 52 #[VV k n f s r, .bool a, .bool b, .bool c, .bool d] w fun e w' => e = .returned (.bool (zr a b c d n f s r)) ∧ w' = w.alloc (VO k n f s r) := by
  go_enter Try.func52, Try.ntmps52
  go_wp2
  all_goals
    go_ret
    refine ⟨?_, ?_⟩
    · simp_all [zr, fz]
    · simp_all

/-- What 'ValueOk' of the specification tells. -/
def vok (k n : Int) (f : Nat) (s : ByteArray) (r : Int) : Bool :=
  if k = 0 then zr false false false false n f s r
  else if k = 1 then zr true false false false n f s r && (n == 0 || n == 1)
  else if k = 2 then zr true false false false n f s r
  else if k = 3 then zr false true false false n f s r
  else if k = 4 then zr false false true false n f s r && decide ((s.size : Int) ≤ 4000)
  else if k = 5 ∨ k = 6 ∨ k = 7 then zr false false false true n f s r && decide (0 ≤ r)
  else if k = 8 then zr true false false false n f s r && decide (0 ≤ n) && decide (n < 15)
  else false

set_option maxHeartbeats 1000000 in
theorem vok_any (k n : Int) (f : Nat) (s : ByteArray) (r : Int) (w : World) (hs : s.size ≤ maxLen) :
    Calls Try.prog 16 #[VV k n f s r] w fun e w' => e = .returned (.bool (vok k n f s r)) ∧ Below w.heap.size w w' := by
  unfold maxLen at hs
  go_enter Try.func16, Try.ntmps16
  go_wp2_with (go_at_call 52; refine (zero_any _ _ _ _ _ _ _ _ _ _).mono ?_; rintro e w' ⟨rfl, rfl⟩)
  all_goals
    go_ret
    refine ⟨?_, by first | exact bw2 _ _ _ | exact bw1 _ _⟩
    simp_all [vok]
    try omega
end Go.Proofs.Ytkipmogmejfmcaa
