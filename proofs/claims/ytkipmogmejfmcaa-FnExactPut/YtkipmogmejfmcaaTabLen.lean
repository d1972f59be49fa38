/-
  OWN WORK. Tables: l2length of the specification.
-/
import Derived.Test.YtkipmogmejfmcaaTabAft
import Derived.Test.YtkipmogmejfmcaaMk
namespace Go.Proofs.Ytkipmogmejfmcaa
open Go.RowKit
attribute [local go_sem] run_store_float
set_option linter.unusedVariables false

/-- The int that a key can only be. -/
def keyI (p : PD) : Int := if p.key.k = 2 then p.key.n else (floatToIntVal .f64 (Fl.flr p.key.f) .i64).getD 0

def vint (a : Int) : VD := ⟨2, a, 0, ⟨#[]⟩, 0⟩

theorem ifc_zero {i : Int} {x : Nat} (h : ifc i x = 0) : i = (floatToIntVal .f64 (Fl.flr x) .i64).getD 0 := by
  unfold ifc at h
  split at h
  · omega
  · split at h
    · omega
    · split at h
      · omega
      · split at h
        · omega
        · omega

theorem sam_int {p : PD} {a : Int} (h : samV p.key.k p.key.n p.key.f p.key.s p.key.r (vint a).k (vint a).n (vint a).f (vint a).s (vint a).r = true) : keyI p = a := by
  unfold samV at h
  split at h
  · cases h
  · rename_i hv
    split at h
    · rename_i hk
      simp only [beq_iff_eq] at h
      unfold cmpV at h
      rw [if_neg hv] at h
      unfold keyI
      rcases hk.1 with h2 | h3
      · rw [if_pos h2]
        simp only [vint, h2] at h
        simp at h
        unfold ncmp at h
        split at h
        · omega
        · split at h
          · omega
          · omega
      · rw [if_neg (by omega)]
        simp only [vint, h3] at h
        simp at h
        split at h
        · have := ifc_zero (by omega : ifc a p.key.f = 0)
          exact this.symm
        · omega
    · rename_i hk
      unfold sf at h
      simp only [Bool.and_eq_true, beq_iff_eq] at h
      have h2 : p.key.k = 2 := h.1.1.1
      exact absurd ⟨.inl h2, .inl rfl⟩ hk

theorem fidx_lt (q : VD) (ps : List PD) (i : Nat) : fidx q ps i = -1 ∨ (i : Int) ≤ fidx q ps i ∧ ∃ p ∈ ps, samV p.key.k p.key.n p.key.f p.key.s p.key.r q.k q.n q.f q.s q.r = true := by
  induction ps generalizing i with
  | nil => exact .inl rfl
  | cons p ps ih =>
    unfold fidx
    split
    · rename_i h
      exact .inr ⟨Int.le_refl _, p, List.mem_cons_self, h⟩
    · rcases ih (i + 1) with h | ⟨h1, x, hx, hs⟩
      · exact .inl h
      · exact .inr ⟨by omega, x, List.mem_cons_of_mem _ hx, hs⟩

/-- How many keys may still come. -/
def mu (ps : List PD) (n : Nat) : Nat := ps.countP fun p => decide ((n : Int) < keyI p)

theorem mu_le (ps : List PD) (n : Nat) : mu ps n ≤ ps.length := List.countP_le_length
theorem mu_mono (ps : List PD) (n : Nat) : mu ps (n + 1) ≤ mu ps n := List.countP_mono_left (fun p _ h => by simp at h ⊢; omega)
theorem mu_step (ps : List PD) (n : Nat) (p : PD) (hp : p ∈ ps) (h : keyI p = (n : Int) + 1) : mu ps (n + 1) < mu ps n := by
  induction ps with
  | nil => cases hp
  | cons x xs ih =>
    have hm := mu_mono xs n
    unfold mu at hm ih ⊢
    rw [List.countP_cons, List.countP_cons]
    rcases List.mem_cons.1 hp with rfl | hx
    · have e1 : decide (((n + 1 : Nat) : Int) < keyI p) = false := by simp; omega
      have e2 : decide ((n : Int) < keyI p) = true := by simp; omega
      rw [e1, e2]; simp only [Bool.false_eq_true, if_false, if_true]; omega
    · have := ih hx
      by_cases e1 : decide (((n + 1 : Nat) : Int) < keyI x) = true
      · have e2 : decide ((n : Int) < keyI x) = true := by simp at e1 ⊢; omega
        rw [if_pos e1, if_pos e2]; omega
      · rw [if_neg e1]; omega

/-- How far the ints go without a gap. -/
def lenF (ps : List PD) : Nat → Nat → Nat
  | 0, n => n
  | k + 1, n => if 0 ≤ fidx (vint ((n : Int) + 1)) ps 0 then lenF ps k (n + 1) else n

theorem at_int (b off len cap : Nat) (ps : List PD) (turns a : Int) (w : World) (hl : ps.length = len) (hp : PAt w b off ps) (hlen : len ≤ 1048576) (hok : ∀ p ∈ ps, p.ok) :
    Calls Try.prog 113 #[.agg #[.slice (some ⟨b, off, none⟩) len cap, .int .i64 turns], VV 2 a 0 ⟨#[]⟩ 0] w fun e w' => e = .returned (.int .i64 (fidx (vint a) ps 0)) ∧ Below w.heap.size w w' :=
  at_some b off len cap ps turns (vint a) w hl hp hlen (fun p hp => (hok p hp).1) ⟨by show 0 < 18446744073709551616; omega, Nat.zero_le _⟩

set_option maxRecDepth 20000 in
set_option maxHeartbeats 1000000 in
theorem len_any (b off len cap : Nat) (ps : List PD) (turns : Int) (w : World) (hl : ps.length = len) (hp : PAt w b off ps) (hlen : len ≤ 1048576) (hok : ∀ p ∈ ps, p.ok) :
    Calls Try.prog 87 #[.agg #[.slice (some ⟨b, off, none⟩) len cap, .int .i64 turns]] w fun e w' => e = .returned (.int .i64 (lenF ps (len + 1) 0)) ∧ Below w.heap.size w w' := by
  have HP : Hid (PAt w b off ps) := hp
  have HO : Hid (∀ p ∈ ps, p.ok) := hok
  clear hp hok
  go_enter Try.func87, Try.ntmps87
  go_wp2_with fail
  go_loopw [3] (fun nn wr => ∃ m : Nat, nn = .int .i64 m ∧ m + mu ps m ≤ len ∧ Below w.heap.size w wr ∧ wr.cell? ⟨w.heap.size, 0, none⟩ = some (.slice (some ⟨b, off, none⟩) len cap) ∧ wr.cell? ⟨w.heap.size, 1, none⟩ = some (.int .i64 turns) ∧ Hid (lenF ps (len + 1 - m) m = lenF ps (len + 1) 0)) (fun nn _ => mu ps (intOf nn).toNat)
  case atStart => exact ⟨0, rfl, by have := mu_le ps 0; omega, bw1 _ _, by simp [go_sem], by simp [go_sem], rfl⟩
  case round =>
    obtain ⟨m, rfl, hmu, hB, t0, t1, hF⟩ := hrel
    have hm : m ≤ len := by omega
    have hstep : len + 1 - m = (len - m) + 1 := by omega
    have HD : Hid ((if 0 ≤ fidx (vint ((m : Int) + 1)) ps 0 then lenF ps (len - m) (m + 1) else m) = lenF ps (len + 1) 0) := by
      have := hF.out; rw [hstep] at this; exact this
    clear hF hstep
    have HMU : Hid (m + mu ps m ≤ len) := hmu
    have hwr : IntKind.i64.wrap ((m : Int) + 1) = (m : Int) + 1 := by rw [IntKind.wrap_i64]; omega
    clear hmu
    by_cases k1 : 0 ≤ fidx (vint ((m : Int) + 1)) ps 0
    · have HR : Hid (lenF ps (len - m) (m + 1) = lenF ps (len + 1) 0) := by have := HD.out; rw [if_pos k1] at this; exact this
      have HS : Hid (mu ps (m + 1) < mu ps m) := by
        rcases fidx_lt (vint ((m : Int) + 1)) ps 0 with h | ⟨_, p, hp, hs⟩
        · omega
        · exact mu_step ps m p hp (sam_int hs)
      clear HD
      go_wp2_with fail
      go_region_with (first | (go_at_call 68; refine (mk_int _ _).mono ?_; rintro e w1 ⟨rfl, hx⟩; (try replace hx := und1 hx); replace hB := hB.trans (hx.mono hB.size); replace t0 := cell_later hx t0; replace t1 := cell_later hx t1; clear hx) | (go_at_call 113; refine (at_int b off len cap ps turns _ _ hl (by exact HP.out.later hB) hlen HO.out).mono ?_; rintro e w2 ⟨rfl, hx⟩; replace hB := hB.trans (hx.mono hB.size); replace t0 := cell_later hx t0; replace t1 := cell_later hx t1; clear hx))
      all_goals
        clear hwr
        go_wp2_with fail
        go_roundw
        case rel => exact ⟨m + 1, by go_num, by have h1 := HMU.out; have h2 := HS.out; omega, hB, t0, t1, by have h := HR.out; rw [show len - m = len + 1 - (m + 1) by omega] at h; exact h⟩
        case measure =>
          have h := HS.out
          simp only [intOf] at *
          first | exact h | (simp; exact h) | simpa using h
    · have HR : Hid ((m : Int) = ((lenF ps (len + 1) 0 : Nat) : Int)) := by
        have := HD.out; rw [if_neg k1] at this; show (m : Int) = _; rw [this]
      clear HD HMU
      have k2 : fidx (vint ((m : Int) + 1)) ps 0 < 0 := by omega
      go_wp2_with fail
      go_region_with (first | (go_at_call 68; refine (mk_int _ _).mono ?_; rintro e w1 ⟨rfl, hx⟩; (try replace hx := und1 hx); replace hB := hB.trans (hx.mono hB.size); replace t0 := cell_later hx t0; replace t1 := cell_later hx t1; clear hx) | (go_at_call 113; refine (at_int b off len cap ps turns _ _ hl (by exact HP.out.later hB) hlen HO.out).mono ?_; rintro e w2 ⟨rfl, hx⟩; replace hB := hB.trans (hx.mono hB.size); replace t0 := cell_later hx t0; replace t1 := cell_later hx t1; clear hx))
      all_goals
        clear hwr
        go_wp2_with fail
        go_ret
        exact ⟨ret_i HR.out, hB⟩
end Go.Proofs.Ytkipmogmejfmcaa
