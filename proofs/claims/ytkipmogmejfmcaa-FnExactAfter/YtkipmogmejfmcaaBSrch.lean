/-
  OWN WORK. After of the program: the search for the first pair behind a turn.
-/
import Derived.Test.YtkipmogmejfmcaaBGet
namespace Go.Proofs.Ytkipmogmejfmcaa
open Go.RowKit
attribute [local go_sem] run_store_float
set_option linter.unusedVariables false

/-- The turns of a list go up. -/
def Up (ps : List PD) : Prop := ∀ (i j : Nat) (p q : PD), i ≤ j → ps[i]? = some p → ps[j]? = some q → p.turn ≤ q.turn

theorem tokL_up {turns : Int} {rest : List PD} : ∀ {ds : List PD} {last : Int}, tokL turns ds rest last = true → Up rest ∧ ∀ p ∈ rest, last < p.turn := by
  induction rest with
  | nil => intro ds last _; exact ⟨fun i j p q _ h => by simp at h, fun p hp => by cases hp⟩
  | cons d rest ih =>
    intro ds last h
    unfold tokL at h
    simp only [Bool.and_eq_true, decide_eq_true_eq] at h
    obtain ⟨h1, h2⟩ := ih h.2
    have hl : last < d.turn := h.1.1.1.2
    refine ⟨?_, ?_⟩
    · intro i j p q hij hp hq
      cases i with
      | zero =>
        simp at hp; subst hp
        cases j with
        | zero => simp at hq; subst hq; exact Int.le_refl _
        | succ j => simp at hq; exact Int.le_of_lt (h2 q (List.mem_of_getElem? hq))
      | succ i =>
        cases j with
        | zero => omega
        | succ j => simp at hp hq; exact h1 i j p q (by omega) hp hq
    · intro p hp
      rcases List.mem_cons.1 hp with rfl | hp
      · exact hl
      · exact Int.lt_trans hl (h2 p hp)
theorem tokV_up {ps : List PD} {turns : Int} (h : tokV ps turns = true) : Up ps := by
  unfold tokV at h
  simp only [Bool.and_eq_true] at h
  exact (tokL_up h.2).1

/-- All ahead of a place are not behind the turn, all from it on are. -/
def Split (ps : List PD) (turn : Int) (m : Nat) : Prop := m ≤ ps.length ∧ (∀ i p, i < m → ps[i]? = some p → p.turn ≤ turn) ∧ (∀ i p, m ≤ i → ps[i]? = some p → turn < p.turn)

theorem split_aft {turn : Int} : ∀ {ps : List PD} {m : Nat}, Split ps turn m → aft turn ps = ps[m]? := by
  intro ps
  induction ps with
  | nil => intro m _; simp [aft]
  | cons p ps ih =>
    intro m h
    obtain ⟨h0, h1, h2⟩ := h
    cases m with
    | zero =>
      have := h2 0 p (Nat.le_refl _) rfl
      unfold aft; rw [if_pos this]; rfl
    | succ m =>
      have := h1 0 p (by omega) rfl
      unfold aft
      rw [if_neg (by omega)]
      rw [ih (m := m) ⟨by simpa using h0, fun i q hi hq => h1 (i + 1) q (by omega) (by simpa using hq), fun i q hi hq => h2 (i + 1) q (by omega) (by simpa using hq)⟩]
      simp

set_option maxRecDepth 20000 in
set_option maxHeartbeats 1000000 in
theorem srch_at (lx tx lb cap i : Nat) (ps : List PD) (turn : Int) (w : World) (hlen : ps.length ≤ 1048576) (c0 : w.cell? ⟨lx, 0, none⟩ = some (.slice (some ⟨lb, 0, none⟩) ps.length cap)) (c1 : w.cell? ⟨tx, 0, none⟩ = some (.int .i64 turn)) (hp : PAt w lb 0 ps) (p : PD) (hi : ps[i]? = some p) :
    Calls Try.prog 112 #[.int .i64 (i : Int), .pointer (some ⟨lx, 0, none⟩), .pointer (some ⟨tx, 0, none⟩)] w fun e w' => e = .returned (.bool (decide (turn < p.turn))) ∧ Below w.heap.size w w' := by
  have hil : i < ps.length := (List.getElem?_eq_some_iff.1 hi).1
  have c2 : w.cell? ⟨lb, i * 11 + 10, none⟩ = some (.int .i64 p.turn) := by have := hp i p hi 10 _ rfl; rw [Nat.zero_add] at this; exact this
  clear hp hi
  go_enter Try.func112, Try.ntmps112
  go_wp2_with fail
  go_quiet (fail)
  go_wp2_with fail
  go_ret
  exact ⟨rfl, below_draw _ _ _⟩

set_option maxRecDepth 20000 in
set_option maxHeartbeats 1000000 in
theorem srch_any (lx tx lb cap : Nat) (ps : List PD) (turn : Int) (w : World) (hlen : ps.length ≤ 1048576) (c0 : w.cell? ⟨lx, 0, none⟩ = some (.slice (some ⟨lb, 0, none⟩) ps.length cap)) (c1 : w.cell? ⟨tx, 0, none⟩ = some (.int .i64 turn)) (hp : PAt w lb 0 ps) (hu : Up ps) :
    Calls Try.prog 111 #[.int .i64 (ps.length : Int), .func (.func 112) #[] #[.pointer (some ⟨lx, 0, none⟩), .pointer (some ⟨tx, 0, none⟩)]] w fun e w' => (∃ m : Nat, e = .returned (.int .i64 (m : Int)) ∧ Split ps turn m) ∧ Below w.heap.size w w' := by
  have HP : Hid (PAt w lb 0 ps) := hp
  have HU : Hid (Up ps) := hu
  have HC0 : Hid (w.cell? ⟨lx, 0, none⟩ = some (.slice (some ⟨lb, 0, none⟩) ps.length cap)) := c0
  have HC1 : Hid (w.cell? ⟨tx, 0, none⟩ = some (.int .i64 turn)) := c1
  clear hp hu c0 c1
  go_enter Try.func111, Try.ntmps111
  go_wp2_with fail
  go_loopw [5, 6] (fun a c wr => ∃ i j : Nat, a = .int .i64 i ∧ c = .int .i64 j ∧ i ≤ j ∧ j ≤ ps.length ∧ Below w.heap.size w wr ∧ Hid (∀ k p, k < i → ps[k]? = some p → p.turn ≤ turn) ∧ Hid (∀ k p, j ≤ k → ps[k]? = some p → turn < p.turn)) (fun a c _ => (intOf c).toNat - (intOf a).toNat)
  case atStart => exact ⟨0, ps.length, rfl, rfl, Nat.zero_le _, Nat.le_refl _, Below.refl _ _, fun k p hk => absurd hk (Nat.not_lt_zero _), fun k p hk h => by have := (List.getElem?_eq_some_iff.1 h).1; omega⟩
  case round =>
    obtain ⟨i, j, rfl, rfl, hij, hjl, hB, h1, h2⟩ := hrel
    by_cases k1 : i < j
    · obtain ⟨h, hh, hn⟩ : ∃ h : Nat, ((i : Int) + (j : Int)) / 2 = (h : Int) ∧ h = (i + j) / 2 := ⟨(i + j) / 2, by omega, rfl⟩
      obtain ⟨p, hpm⟩ : ∃ p, ps[h]? = some p := ⟨ps[h]'(by omega), by simp⟩
      have HM : Hid (ps[h]? = some p) := hpm
      have hi1 : i ≤ h := by omega
      have hi2 : h < j := by omega
      have HH : Hid (((i : Int) + (j : Int)) / 2 = (h : Int)) := hh
      clear hpm hn hh
      go_wp2_with fail
      rw [HH.out]
      refine (srch_at lx tx lb cap h ps turn _ hlen (cell_later hB HC0.out) (cell_later hB HC1.out) (HP.out.later hB) p HM.out).mono ?_
      rintro e w1 ⟨rfl, hx⟩
      replace hB := hB.trans (hx.mono hB.size)
      clear hx
      by_cases g : turn < p.turn
      · have g' : decide (turn < p.turn) = true := by simpa using g
        go_wp2_with fail
        go_roundw
        case rel => exact ⟨i, h, rfl, rfl, hi1, by omega, hB, h1, fun k q hk hq => Int.lt_of_lt_of_le g (HU.out h k p q hk HM.out hq)⟩
        case measure => simp [intOf]; omega
      · have g' : decide (turn < p.turn) = false := by simpa using g
        go_wp2_with fail
        go_roundw
        case rel => exact ⟨h + 1, j, by go_num, rfl, by omega, hjl, hB, fun k q hk hq => Int.le_trans (HU.out k h q p (by omega) hq HM.out) (by omega), h2⟩
        case measure => simp [intOf]; omega
    · have hji : j = i := by omega
      subst hji
      go_wp2_with fail
      go_ret
      exact ⟨⟨j, rfl, hjl, h1.out, h2.out⟩, hB⟩
end Go.Proofs.Ytkipmogmejfmcaa
