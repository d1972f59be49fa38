/-
  OWN WORK. What is known of a code of the right shape.
-/
import Derived.Test.YtiicfgcnbdbbcaaGreatDoorEDat
import Derived.Test.YtiicfgcnbdbbcaaGreatDoorCSpS
namespace Go.Proofs.YtiicfgcnbdbbcaaGreatDoor
open Go.RowKit
set_option linter.unusedVariables false
set_option linter.unusedSimpArgs false

theorem csm_of {v : VD} (h : constB v = true) (ho : v.ok) : CSm v := by
  simp only [constB, Bool.and_eq_true] at h
  obtain ⟨⟨h1, h2⟩, h3⟩ := h
  unfold vok at h1
  refine ⟨?_, ?_, ho.1, ?_⟩
  · repeat' split at h1
    all_goals first
      | (simp_all; done)
      | omega
  · intro h4
    simp only [h4] at h1
    simp at h1
    omega
  · intro hk
    rw [if_pos hk] at h3
    simpa using h3
theorem mem_le_sum : ∀ (l : List Nat) (x : Nat), x ∈ l → x ≤ l.sum
  | y :: l, x, h => by
    simp only [List.sum_cons]
    rcases List.mem_cons.1 h with rfl | h
    · omega
    · have := mem_le_sum l x h; omega
theorem named_of {f : FD} {q : Nat} {v : ND} (h : namedB f (0 + q) v = true) : q < 500 ∧ v.s.size ≤ 40 := by
  unfold namedB inR at h
  simp only [Bool.and_eq_true, decide_eq_true_eq] at h
  obtain ⟨⟨⟨⟨⟨h1, h2⟩, _⟩, _⟩, _⟩, _⟩ := h
  constructor <;> omega
theorem fsm_of {c : List FD} (H : ∀ f ∈ c, f.ok) (h0 : (partsV c).1 = 0) : ∀ f ∈ c, FSm f := by
  obtain ⟨h1, h2, h3, h4, _⟩ := parts_ok h0
  intro f hf
  obtain ⟨p, hp⟩ := List.getElem?_of_mem hf
  have a := fp_none h2 p f hp
  have b := fp_none h3 p f hp
  have d := fp_none h4 p f hp
  unfold na0 at d
  unfold co0 at b
  unfold hd0 at a
  split at a
  case isFalse => cases a
  rename_i hh
  simp only [headB, inR, Bool.and_eq_true, decide_eq_true_eq] at hh
  have hln : f.named.length ≤ 500 := by
    have key : ∀ q, q < f.named.length → q < 500 := by
      intro q hq
      exact (named_of (ff_none d q _ (List.getElem?_eq_getElem hq))).1
    have := key (f.named.length - 1)
    omega
  have hli : f.ins.length ≤ 6000 := by
    have hs := mem_le_sum (c.map fun f => f.ins.length) f.ins.length (List.mem_map.2 ⟨f, hf, rfl⟩)
    unfold badSize total at h1
    omega
  refine ⟨by omega, by omega, by omega, hli, hln, ?_, ?_⟩
  · intro v hv
    obtain ⟨q, hq⟩ := List.getElem?_of_mem hv
    exact csm_of (ff_none b q v hq) ((H f hf).c v hv)
  · intro v hv
    obtain ⟨q, hq⟩ := List.getElem?_of_mem hv
    exact (named_of (ff_none d q v hq)).2
end Go.Proofs.YtiicfgcnbdbbcaaGreatDoor
