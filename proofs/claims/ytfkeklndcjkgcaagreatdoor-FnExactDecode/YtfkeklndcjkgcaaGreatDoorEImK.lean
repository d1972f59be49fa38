/-
  OWN WORK. The program's Encode.
-/
import Derived.Test.YtfkeklndcjkgcaaGreatDoorEiH
import Derived.Test.YtfkeklndcjkgcaaGreatDoorCiE
namespace Go.Proofs.YtfkeklndcjkgcaaGreatDoor
open Go.RowKit
set_option linter.unusedVariables false
set_option linter.unusedSimpArgs false

set_option maxRecDepth 20000 in
set_option maxHeartbeats 8000000 in
theorem ienc_any (a : Option Addr) (len cap : Nat) (xs : List FC) (w : World) (H0 : CodeAt w a xs) (hl : xs.length = len) (hlay : LayAt w) :
    Calls Tryz.prog 12 #[.agg #[.slice a len cap]] w fun e w' => (∃ sv, e = .returned sv ∧ BRow w' w.heap.size sv (encV (xs.map FC.d))) ∧ Below w.heap.size w w' := by
  have H : Hid (CodeAt w a xs) := H0
  have HL : Hid (xs.length = len) := hl
  have HLY : Hid (LayAt w) := hlay
  obtain ⟨cs, hcs⟩ : ∃ cs, cs = xs.map FC.d := ⟨_, rfl⟩
  have HM : Hid (cs = xs.map FC.d) := hcs
  rw [← hcs]
  clear H0 hl hcs hlay
  go_enter Tryz.func12, Tryz.ntmps12
  go_wp2_with fail
  refine (ishape_any a len cap xs _ (H.out.later (bw1 _ _)) HL.out (HLY.out.later (bw1 _ _))).mono ?_
  rw [← HM.out]
  rintro e w1 ⟨rfl, hx⟩
  have B0 : Hid (w1.heap[w.heap.size]? = some (CO (.slice a len cap))) := blk_later hx (blk_new _ _)
  have hB : Below w.heap.size w w1 := (bw1 _ _).trans (hx.mono (by simp))
  clear hx
  obtain ⟨⟨pc, pp, pi⟩, hpv⟩ : ∃ t, t = shapeV cs := ⟨_, rfl⟩
  rw [← hpv]
  by_cases hp0 : pc = 0
  · subst hp0
    obtain ⟨rfl, rfl, h0⟩ := eshape_code0 hpv.symm
    have HV : Hid (encV cs = if (imageL cs).length ≤ 1000000 then imageL cs else []) := by show encV cs = _; unfold encV; simp [hpv.symm]
    have HS : Hid (∀ x ∈ xs, FSm x.d) := fun x hx => fsm_of (c := cs) (by rw [HM.out]; intro f hf; obtain ⟨x, hx, rfl⟩ := List.mem_map.1 hf; exact H.out.ok x hx) h0 x.d (by rw [HM.out]; exact List.mem_map.2 ⟨x, hx, rfl⟩)
    clear hpv h0
    rw [show EV (optF (0, 0, 0)) = .nilIface from rfl]
    go_wp2_with fail
    refine (new_any none 0 0 false w1).mono ?_
    rintro e w2 ⟨rfl, hb2, hT, hP, hM⟩
    have HR : Hid (Calls _ _ _ _ _) := run_any w1.heap.size (w1.heap.size + 1) (w1.heap.size + 2) w.heap.size a len cap xs w w2 H.out HL.out HS.out (hB.trans (hb2.mono hB.size)) hB.size (blk_later hb2 B0.out) hT ⟨hP, hM, by omega, by omega⟩
    rw [← HM.out] at HR
    clear hb2 hT hP hM B0
    go_wp2_with fail
    refine Calls.mono (show Calls _ _ _ _ _ from HR.out) ?_
    rintro e w3 ⟨hb3, ⟨rfl, sv, h1, h2, h3⟩ | ⟨rfl, hx⟩⟩
    · have c0 : w3.cell? ⟨w1.heap.size, 0, none⟩ = some sv := (blk_cell h1 0).trans rfl
      obtain ⟨ax, cx, rfl⟩ := h2.val
      go_wp2_with fail
      go_ret
      exact ⟨⟨_, rfl, by rw [HV.out, if_pos h3]; exact h2⟩, hb3⟩
    · go_wp2_with fail
      go_ret
      exact ⟨⟨_, rfl, by rw [HV.out, if_neg (by omega)]; exact BRow.nil _ _⟩, hb3⟩
  · have HV : Hid (encV cs = []) := by
      show encV cs = []
      unfold encV
      rw [if_neg (by rw [← hpv]; intro h; simp at h; exact hp0 h.1.1)]
    rw [show EV (optF (pc, pp, pi)) = .iface 142 (FV pc pp pi) from by unfold optF; rw [if_neg hp0]; rfl]
    go_wp2_with fail
    go_ret
    exact ⟨⟨_, rfl, by rw [HV.out]; exact BRow.nil _ _⟩, hB⟩
end Go.Proofs.YtfkeklndcjkgcaaGreatDoor
