/-
  OWN WORK. The specification's shape: heads, consts, names.
-/
import Derived.Test.YtmicnjphlakoaaaGreatDoorCSpA
import Derived.Test.YtmicnjphlakoaaaGreatDoorEq
namespace Go.Proofs.YtmicnjphlakoaaaGreatDoor
open Go.RowKit
set_option linter.unusedVariables false

set_option maxRecDepth 20000 in
set_option maxHeartbeats 4000000 in
theorem head_any (b off len cap p : Nat) (f : FC) (w : World) (hpl : p < len) (hlen : len ≤ 1048576) (hc : Cell9 w b (off + p * 9) f) (ok : f.d.ok) :
    Calls Tryz.prog 19 #[.agg #[.slice (some ⟨b, off, none⟩) len cap], .int .i64 p] w fun e w' => e = .returned (.bool (headB p f.d)) ∧ Below w.heap.size w w' := by
  obtain ⟨c0, c1, c2, c3, c4, c5, c6, c7, c8⟩ := hc.later (bw1 w (CO (.slice (some ⟨b, off, none⟩) len cap)))
  obtain ⟨hn, lu, lc, li, ln, _, _⟩ := ok
  unfold maxLen at hn
  clear hc
  have hp0 : ((p : Int) > 0) = ¬ (p = 0) := by simp; omega
  cases h1 : inR f.d.line 0 100000
  · go_enter Tryz.func19, Tryz.ntmps19
    go_wp2_with (go_at_call 23; refine (in_any _ _ _ _).mono ?_; rintro e w' ⟨rfl, rfl⟩)
    all_goals
      go_ret
      refine ⟨?_, by exact bw2 _ _ _⟩
      simp_all [headB]
  · cases h2 : inR f.d.regs 0 250
    · go_enter Tryz.func19, Tryz.ntmps19
      go_wp2_with (go_at_call 23; refine (in_any _ _ _ _).mono ?_; rintro e w' ⟨rfl, rfl⟩)
      all_goals
        go_ret
        refine ⟨?_, by exact bw2 _ _ _⟩
        simp_all [headB]
    · have hr : 0 ≤ f.d.regs ∧ f.d.regs ≤ 250 := by simpa [inR] using h2
      obtain ⟨hr0, hr1⟩ := hr
      go_enter Tryz.func19, Tryz.ntmps19
      go_wp2_with (go_at_call 23; refine (in_any _ _ _ _).mono ?_; rintro e w' ⟨rfl, rfl⟩)
      all_goals
        go_ret
        refine ⟨?_, by exact bw2 _ _ _⟩
        simp_all [headB]
        try (intros; omega)
end Go.Proofs.YtmicnjphlakoaaaGreatDoor
