/-
  OWN WORK. The program's shape: checkHead, checkConsts, checkNamed, checkIns.
-/
import Derived.Test.YtmicnjphlakoaaaGreatDoorCImD
namespace Go.Proofs.YtmicnjphlakoaaaGreatDoor
open Go.RowKit
attribute [local go_sem] run_store_float
set_option linter.unusedVariables false
set_option linter.unusedSimpArgs false

/-- The fault of one look at one proto. -/
def ckf (code : Int) (inner : Nat → FD → Option Nat) (p : Nat) (f : FD) : Option F3 := (inner p f).map fun i => (code, (p : Int), (i : Int))
theorem ck_t {p : Nat} {f : FD} (h : headB p f = true) : ckf 2 hd0 p f = none := by simp [ckf, hd0, h]
theorem ck_f {p : Nat} {f : FD} (h : headB p f = false) : ckf 2 hd0 p f = some (2, (p : Int), 0) := by simp [ckf, hd0, h]

set_option maxRecDepth 20000 in
set_option maxHeartbeats 8000000 in
theorem ihead_any (b off len cap p : Nat) (f : FC) (w : World) (hpl : p < len) (hlen : len ≤ 1048576) (hc : Cell9 w b (off + p * 9) f) (ok : f.d.ok) :
    Calls Tryz.prog 28 #[.agg #[.slice (some ⟨b, off, none⟩) len cap], .int .i64 p] w fun e w' => e = .returned (EV (ckf 2 hd0 p f.d)) ∧ Below w.heap.size w w' := by
  obtain ⟨c0, c1, c2, c3, c4, c5, c6, c7, c8⟩ := hc.later (bw1 w (CO (.slice (some ⟨b, off, none⟩) len cap)))
  obtain ⟨hn, lu, lc, lli, ln, _, _⟩ := ok
  unfold maxLen at hn
  clear hc
  by_cases hna : (f.d.name.size : Int) ≤ 40
  · cases h1 : inR f.d.line 0 100000
    · go_enter Tryz.func28, Tryz.ntmps28
      go_wp2_with (first | (go_at_call 50; refine (wi_any _ _ _ _).mono ?_; rw [h1]; rintro e w' ⟨rfl, rfl⟩) | (go_at_call 27; refine (fat_any _ _ _ _).mono ?_; rintro e w' ⟨rfl, rfl⟩))
      go_ret
      exact ⟨by rw [ck_f (by simp [headB, h1])]; rfl, bw2 _ _ _⟩
    · cases h2 : inR f.d.regs 0 250
      · go_enter Tryz.func28, Tryz.ntmps28
        go_wp2_with (first | (go_at_call 50; refine (wi_any _ _ _ _).mono ?_; (first | rw [h1] | rw [h2]); rintro e w' ⟨rfl, rfl⟩) | (go_at_call 27; refine (fat_any _ _ _ _).mono ?_; rintro e w' ⟨rfl, rfl⟩))
        go_ret
        exact ⟨by rw [ck_f (by simp [headB, h2])]; rfl, bw2 _ _ _⟩
      · have hr : 0 ≤ f.d.regs ∧ f.d.regs ≤ 250 := by simpa [inR] using h2
        obtain ⟨hr0, hr1⟩ := hr
        go_enter Tryz.func28, Tryz.ntmps28
        go_wp2_with (go_at_call 50; refine (wi_any _ _ _ _).mono ?_; (first | rw [h1] | rw [h2]); rintro e w' ⟨rfl, rfl⟩)
        refine (params_any f _ hr0 hr1).mono ?_
        rintro e w2 ⟨rfl, hx⟩
        have BF := blk_later hx (blk_newn (k := w.heap.size + 1) (by simp) (PO f))
        have p2 : w2.cell? ⟨w.heap.size + 1, 2, none⟩ = some (.int .i64 f.d.params) := by rw [blk_cell BF]; rfl
        have p5 : w2.cell? ⟨w.heap.size + 1, 5, none⟩ = some (.slice f.au f.d.ups.length f.cu) := by rw [blk_cell BF]; rfl
        have p6 : w2.cell? ⟨w.heap.size + 1, 6, none⟩ = some (.slice f.ac f.d.consts.length f.cc) := by rw [blk_cell BF]; rfl
        have hB : Below w.heap.size w w2 := (bw2 _ _ _).trans (hx.mono (by simp; omega))
        clear hx BF c0 c1 c2 c3 c4 c5 c6 c7 c8
        cases h3 : inR f.d.params 0 (if f.d.rest = true then f.d.regs - 1 else f.d.regs)
        · go_wp2_with (go_at_call 27; refine (fat_any _ _ _ _).mono ?_; rintro e w' ⟨rfl, rfl⟩)
          go_ret
          exact ⟨by rw [ck_f (by simp [headB, h3])]; rfl, hB⟩
        · by_cases h4 : (f.d.ups.length : Int) ≤ 250
          · by_cases h5 : (f.d.consts.length : Int) ≤ 500
            · by_cases h6 : p = 0
              · have h6' : ((p : Int) == 0) = true := by simp [h6]
                have H6 : Hid (p = 0) := h6
                clear h6
                cases h7 : (f.d.params == 0)
                · have h7' : (f.d.params != 0) = true := by simp [bne, h7]
                  go_wp2_with (go_at_call 27; refine (fat_any _ _ _ _).mono ?_; rintro e w' ⟨rfl, rfl⟩)
                  go_ret
                  exact ⟨by rw [ck_f (by simp [headB, H6.out, h7])]; rfl, hB⟩
                · have h7' : (f.d.params != 0) = false := by simp [bne, h7]
                  cases h8 : ((f.d.ups.length : Int) == 0)
                  · have h8' : ((f.d.ups.length : Int) != 0) = true := by simp only [bne, h8]; rfl
                    go_wp2_with (go_at_call 27; refine (fat_any _ _ _ _).mono ?_; rintro e w' ⟨rfl, rfl⟩)
                    go_ret
                    exact ⟨by rw [ck_f (by unfold headB; rw [h8]; simp [H6.out])]; rfl, hB⟩
                  · have h8' : ((f.d.ups.length : Int) != 0) = false := by simp only [bne, h8]; rfl
                    go_wp2_with fail
                    go_ret
                    exact ⟨by rw [ck_t (by unfold headB; rw [h8, h1, h2, h3, h7]; simp only [hna, h4, h5, decide_true, Bool.and_self, Bool.or_true])]; rfl, hB⟩
              · have h6' : ((p : Int) == 0) = false := by simpa using h6
                go_wp2_with fail
                go_ret
                exact ⟨by rw [ck_t (by have h9 : (p == 0) = false := by simpa using h6
                                       unfold headB; rw [h1, h2, h3, h9]; simp only [hna, h4, h5, decide_true, Bool.and_self, Bool.not_false, Bool.true_or])]; rfl, hB⟩
            · go_wp2_with (go_at_call 27; refine (fat_any _ _ _ _).mono ?_; rintro e w' ⟨rfl, rfl⟩)
              go_ret
              exact ⟨by rw [ck_f (by unfold headB; rw [decide_eq_false (Int.not_le.2 h5)]; simp)]; rfl, hB⟩
          · go_wp2_with (go_at_call 27; refine (fat_any _ _ _ _).mono ?_; rintro e w' ⟨rfl, rfl⟩)
            go_ret
            exact ⟨by rw [ck_f (by unfold headB; rw [decide_eq_false (Int.not_le.2 h4)]; simp)]; rfl, hB⟩
  · go_enter Tryz.func28, Tryz.ntmps28
    go_wp2_with (go_at_call 27; refine (fat_any _ _ _ _).mono ?_; rintro e w' ⟨rfl, rfl⟩)
    go_ret
    exact ⟨by rw [ck_f (by unfold headB; rw [decide_eq_false (Int.not_le.2 hna)]; simp)]; rfl, bw2 _ _ _⟩
end Go.Proofs.YtmicnjphlakoaaaGreatDoor
