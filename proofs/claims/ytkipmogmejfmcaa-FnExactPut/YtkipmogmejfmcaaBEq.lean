/-
  OWN WORK. The program's book: two keys are equal by == just if they are the same.
-/
import Derived.Test.YtkipmogmejfmcaaBMap
import Derived.Test.YtkipmogmejfmcaaTabK
namespace Go.Proofs.Ytkipmogmejfmcaa
open Go.RowKit
set_option linter.unusedVariables false

theorem kok_vok {k n : Int} {f : Nat} {s : ByteArray} {r : Int} (h : kok k n f s r = true) : vok k n f s r = true := by
  unfold kok at h
  simp only [Bool.and_eq_true] at h
  exact h.1.1
theorem kok_nil {k n : Int} {f : Nat} {s : ByteArray} {r : Int} (h : kok k n f s r = true) : k ≠ 0 := by
  unfold kok at h
  simp only [Bool.and_eq_true] at h
  simpa using h.1.2

def VD.kk (a : VD) : Bool := kok a.k a.n a.f a.s a.r
def VD.sam (a b : VD) : Bool := samV a.k a.n a.f a.s a.r b.k b.n b.f b.s b.r

theorem fz_eq {a b : Nat} (ha : fz a = true) (hb : fz b = true) : FloatKind.f64.format.order a b = some .eq := by
  unfold fz at ha hb
  obtain ⟨s, e, h1⟩ := order_self a (by simpa using ha)
  obtain ⟨t, g, h2⟩ := order_self b (by simpa using hb)
  unfold Ieee.Format.order
  rw [h1, h2]
  simp only [Ieee.Datum.order, Option.some.injEq, Ieee.signed, Nat.zero_shiftLeft]
  cases s <;> cases t <;> rfl

theorem order_comm {a b : Nat} (h : FloatKind.f64.format.order a b = some .eq) : FloatKind.f64.format.order b a = some .eq := by
  unfold Ieee.Format.order at h ⊢
  cases hx : FloatKind.f64.format.read a with
  | number s m i =>
    cases hy : FloatKind.f64.format.read b with
    | number t n j =>
      rw [hx, hy] at h
      simp only [Ieee.Datum.order] at h ⊢
      rw [Option.some.injEq] at h ⊢
      rw [Int.min_comm]
      exact Int.compare_eq_eq.2 (Int.compare_eq_eq.1 h).symm
    | infinity t => rw [hx, hy] at h; cases t <;> simp [Ieee.Datum.order] at h
    | nan t u => rw [hx, hy] at h; simp [Ieee.Datum.order] at h
  | infinity s =>
    cases hy : FloatKind.f64.format.read b with
    | number t n j => rw [hx, hy] at h; cases s <;> simp [Ieee.Datum.order] at h
    | infinity t =>
      rw [hx, hy] at h
      cases s <;> cases t
      · rfl
      · exact absurd h (by decide)
      · exact absurd h (by decide)
      · rfl
    | nan t u => rw [hx, hy] at h; simp [Ieee.Datum.order] at h
  | nan s t => rw [hx] at h; simp [Ieee.Datum.order] at h

/-- A float that is a key is no int. -/
theorem kok_ifc {n : Int} {f : Nat} {s : ByteArray} {r : Int} (hf : f < 18446744073709551616) (h : kok 3 n f s r = true) (i : Int) : FloatKind.f64.format.order f f = some .eq ∧ ifc i f ≠ 0 := by
  unfold kok at h
  simp only [Bool.and_eq_true, beq_self_eq_true, Bool.not_true, Bool.false_or, decide_eq_true_eq, Bool.not_eq_true', decide_eq_false_iff_not] at h
  obtain ⟨_, h1, h2⟩ := h
  refine ⟨h1, fun h0 => h2 ?_⟩
  unfold ifc at h0
  split at h0
  · cases h0
  · rename_i g1
    split at h0
    · cases h0
    · rename_i g2
      have e1 : FloatKind.f64.format.order f Fl.C63 = some .lt := by
        rcases ord_of hf h1 Fl.read_C63 with h | h | h
        · exact h
        · exact absurd (.inr h) g1
        · exact absurd (.inl h) g1
      have e2 : FloatKind.f64.format.order f Fl.N63 = some .gt ∨ FloatKind.f64.format.order f Fl.N63 = some .eq := by
        rcases ord_of hf h1 Fl.read_N63 with h | h | h
        · exact absurd h g2
        · exact .inr h
        · exact .inl h
      refine ⟨e1, e2, ?_⟩
      obtain ⟨_, _, ho⟩ := in_range hf h1 e1 g2
      rcases ho with ⟨_, ho⟩ | ⟨_, ho⟩
      · exfalso
        rw [ho] at h0
        simp at h0
        split at h0
        · cases h0
        · split at h0 <;> cases h0
      · exact ho

theorem v_fz {k n : Int} {f : Nat} {s : ByteArray} {r : Int} (h : vok k n f s r = true) (h3 : k ≠ 3) : fz f = true := by
  unfold vok at h
  simp only [zr, Bool.true_or, Bool.false_or, Bool.true_and, Bool.and_true] at h
  repeat' split at h
  all_goals simp_all

theorem v_3 {n : Int} {f : Nat} {s : ByteArray} {r : Int} (h : vok 3 n f s r = true) : n = 0 ∧ s.toList = [] ∧ r = 0 := by simp [vok, zr] at h; exact ⟨h.1.1, h.1.2, h.2⟩
theorem v_2 {n : Int} {f : Nat} {s : ByteArray} {r : Int} (h : vok 2 n f s r = true) : s.toList = [] ∧ r = 0 := by simp [vok, zr] at h; exact ⟨h.1.2, h.2⟩

/-- Of two values that Key made == tells what Same tells. -/
theorem eqb_sam {a b : VD} (hfa : a.f < 18446744073709551616) (hfb : b.f < 18446744073709551616) (ha : a.kk = true) (hb : b.kk = true) : eqb a b = b.sam a := by
  obtain ⟨ka, na, fa, sa, ra⟩ := a
  obtain ⟨kb, nb, fb, sb, rb⟩ := b
  unfold VD.kk at ha hb
  simp only at ha hb hfa hfb
  have va := kok_vok ha
  have vb := kok_vok hb
  unfold eqb VD.sam samV
  simp only
  rw [if_neg (by simp [va, vb])]
  by_cases hn : (kb = 2 ∨ kb = 3) ∧ (ka = 2 ∨ ka = 3)
  · rw [if_pos hn]
    unfold cmpV
    rw [if_neg (by simp [va, vb])]
    obtain ⟨h1 | h1, h2 | h2⟩ := hn
    · subst h1 h2
      obtain ⟨p1, p2⟩ := v_2 va
      obtain ⟨q1, q2⟩ := v_2 vb
      have ho := fz_eq (v_fz va (by decide)) (v_fz vb (by decide))
      simp only [p1, p2, q1, q2, ho]
      simp
      unfold ncmp
      by_cases h : na = nb
      · subst h; simp
      · have e : (na == nb) = false := by simpa using h
        rw [e]
        symm
        rw [beq_eq_false_iff_ne]
        split
        · decide
        · split
          · decide
          · omega
    · subst h1 h2
      obtain ⟨h1, h2⟩ := kok_ifc hfa ha nb
      simp [h1, h2]
    · subst h1 h2
      obtain ⟨h1, h2⟩ := kok_ifc hfb hb na
      simp [h1, h2]
    · subst h1 h2
      obtain ⟨p0, p1, p2⟩ := v_3 va
      obtain ⟨q0, q1, q2⟩ := v_3 vb
      simp only [p0, p1, p2, q0, q1, q2]
      simp
      by_cases ho : FloatKind.f64.format.order fa fb = some .eq
      · rw [ho, order_comm ho]; rfl
      · have e : (FloatKind.f64.format.order fa fb == some .eq) = false := by simpa using ho
        rw [e]
        symm
        rw [beq_eq_false_iff_ne]
        intro h
        apply ho
        apply order_comm
        rcases ho' : FloatKind.f64.format.order fb fa with _ | _ | _ | _
        · rw [ho'] at h; cases h
        · rw [ho'] at h; cases h
        · rfl
        · rw [ho'] at h; cases h
  · rw [if_neg hn]
    unfold sf
    by_cases hk : ka = kb
    · subst hk
      have h3 : ka ≠ 3 := fun h => hn ⟨.inr h, .inr h⟩
      have ho := fz_eq (v_fz va h3) (v_fz vb h3)
      rw [ho]
      simp only [beq_self_eq_true, Bool.true_and, Bool.and_assoc]
      rw [Bool.beq_comm (a := na), Bool.beq_comm (a := ra), Bool.beq_comm (a := sa.toList)]
    · have e1 : (ka == kb) = false := by simpa using hk
      have e2 : (kb == ka) = false := by simpa using fun h : kb = ka => hk h.symm
      simp [e1, e2]
end Go.Proofs.Ytkipmogmejfmcaa
