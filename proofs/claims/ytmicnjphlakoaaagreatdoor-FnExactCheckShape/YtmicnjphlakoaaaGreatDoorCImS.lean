/-
  OWN WORK. The program's CheckShape.
-/
import Derived.Test.YtmicnjphlakoaaaGreatDoorCAs
namespace Go.Proofs.YtmicnjphlakoaaaGreatDoor
open Go.RowKit
set_option linter.unusedVariables false
set_option linter.unusedSimpArgs false

/-- The variable that errors.As reads. -/
def ErrAt (w : World) : Prop := w.cell? ⟨0, 0, none⟩ = some (.iface 128 (.agg #[.pointer (some ⟨3, 51, none⟩)]))
theorem ErrAt.later {w wx : World} (hb : Below w.heap.size w wx) (h : ErrAt w) : ErrAt wx := cell_later hb h

set_option maxHeartbeats 4000000 in
theorem faultof_some (c p i : Int) (w : World) (he : ErrAt w) : Calls Tryz.prog 15 #[.iface 72 (FV c p i)] w fun e w' => e = .returned (FV c p i) ∧ Below w.heap.size w w' := by
  have hB := bw2 w (FO 0 0 0) (As.T1 0 0 0)
  have he2 := he.later hB
  have hT : ((w.alloc (FO 0 0 0)).alloc (As.T1 0 0 0)).heap[w.heap.size + 1]? = some (As.T1 0 0 0) := blk_newn (by simp) _
  have hR : ((w.alloc (FO 0 0 0)).alloc (As.T1 0 0 0)).heap[w.heap.size]? = some (FO 0 0 0) := blk_old (blk_new _ _) _
  have t0 : ((w.alloc (FO 0 0 0)).alloc (As.T1 0 0 0)).cell? ⟨w.heap.size + 1, 0, none⟩ = some (.int .i64 0) := by rw [blk_cell hT]; rfl
  have t1 : ((w.alloc (FO 0 0 0)).alloc (As.T1 0 0 0)).cell? ⟨w.heap.size + 1, 1, none⟩ = some (.int .i64 0) := by rw [blk_cell hT]; rfl
  have t2 : ((w.alloc (FO 0 0 0)).alloc (As.T1 0 0 0)).cell? ⟨w.heap.size + 1, 2, none⟩ = some (.int .i64 0) := by rw [blk_cell hT]; rfl
  have z := blk_frozen hT
  go_enter Tryz.func15, Tryz.ntmps15
  go_wp2_with fail
  refine (as_hit (w.heap.size + 1) c p i _ _ _ _ he2 t0 t1 t2 z).mono ?_
  rintro e w9 ⟨rfl, hw9⟩
  have hB9 : Below w.heap.size w w9 := by
    rw [hw9]
    exact (((below_alloc (below_alloc (below_alloc (below_alloc hB _) _) _) _).setCell (p := ⟨w.heap.size + 1, 0, none⟩) (by simp) _).setCell (p := ⟨w.heap.size + 1, 1, none⟩) (by simp) _).setCell (p := ⟨w.heap.size + 1, 2, none⟩) (by simp) _
  have hT9 : w9.heap[w.heap.size + 1]? = some (.cells (putl #[.int .i64 0, .int .i64 0, .int .i64 0] 0 [.int .i64 c, .int .i64 p, .int .i64 i]) 72) := by
    rw [hw9]
    exact blk_set (blk_set (blk_set (blk_old (blk_old (blk_old (blk_old hT _) _) _) _) 0 _) 1 _) 2 _
  have hR9 : w9.heap[w.heap.size]? = some (FO 0 0 0) := by
    rw [hw9]
    exact blk_other (blk_other (blk_other (blk_old (blk_old (blk_old (blk_old hR _) _) _) _) (by omega) 0 _) (by omega) 1 _) (by omega) 2 _
  have d0 : w9.cell? ⟨w.heap.size + 1, 0, none⟩ = some (.int .i64 c) := by rw [blk_cell hT9]; rfl
  have d1 : w9.cell? ⟨w.heap.size + 1, 1, none⟩ = some (.int .i64 p) := by rw [blk_cell hT9]; rfl
  have d2 : w9.cell? ⟨w.heap.size + 1, 2, none⟩ = some (.int .i64 i) := by rw [blk_cell hT9]; rfl
  have r0 : w9.cell? ⟨w.heap.size, 0, none⟩ = some (.int .i64 0) := by rw [blk_cell hR9]; rfl
  have r1 : w9.cell? ⟨w.heap.size, 1, none⟩ = some (.int .i64 0) := by rw [blk_cell hR9]; rfl
  have r2 : w9.cell? ⟨w.heap.size, 2, none⟩ = some (.int .i64 0) := by rw [blk_cell hR9]; rfl
  have z9 := blk_frozen hR9
  clear hw9 hT9 hR9 hT hR t0 t1 t2 z he2 he hB
  go_wp2_with fail
  refine bodyPost_ret (v := FV c p i) (by simp [results, Tryz.results15, go_sem, r0, r1, r2]) rfl ⟨rfl, ?_⟩
  exact ((hB9.setCell (p := ⟨w.heap.size, 0, none⟩) (by simp) _).setCell (p := ⟨w.heap.size, 1, none⟩) (by simp) _).setCell (p := ⟨w.heap.size, 2, none⟩) (by simp) _

theorem optF_fault (t : F3) (h : ∀ k p i : Int, t = (k, p, i) → k = 0 → p = 0 ∧ i = 0) : (optF t = none ∧ t = (0, 0, 0)) ∨ optF t = some t := by
  obtain ⟨k, p, i⟩ := t
  unfold optF
  by_cases hk : k = 0
  · obtain ⟨hp, hi⟩ := h k p i rfl hk
    subst hk hp hi
    exact .inl ⟨rfl, rfl⟩
  · exact .inr (if_neg hk)
theorem shape_zero (c : List FD) (k p i : Int) (h : shapeV c = (k, p, i)) (hk : k = 0) : p = 0 ∧ i = 0 := by
  subst hk
  unfold shapeV at h
  split at h
  · unfold fnsV at h
    repeat' split at h
    all_goals first
      | (simp at h; done)
      | (simp at h; exact ⟨h.1.symm, h.2.symm⟩)
  · rename_i hn
    rw [h] at hn
    exact absurd rfl hn

set_option maxHeartbeats 4000000 in
theorem icheck_any (a : Option Addr) (len cap : Nat) (xs : List FC) (w : World) (H0 : CodeAt w a xs) (hl : xs.length = len) (hlay : LayAt w) (he : ErrAt w) :
    Calls Tryz.prog 7 #[.agg #[.slice a len cap]] w fun e w' => e = .returned (F3V (shapeV (xs.map FC.d))) ∧ Below w.heap.size w w' := by
  have hy := bw2 w (CO (.slice a len cap)) (FO 0 0 0)
  rcases optF_fault (shapeV (xs.map FC.d)) (shape_zero _) with ⟨ho, hz⟩ | ho
  · have HR : Hid (shapeV (xs.map FC.d) = (0, 0, 0)) := hz
    go_enter Tryz.func7, Tryz.ntmps7
    go_wp2_with fail
    refine (ishape_any a len cap xs _ (H0.later hy) hl (hlay.later hy)).mono ?_
    rw [ho, show EV none = .nilIface from rfl]
    rintro e w1 ⟨rfl, hx⟩
    have B1 := blk_later hx (blk_newn (k := w.heap.size + 1) (by simp) (FO 0 0 0))
    have hB := hy.trans (hx.mono hy.size)
    clear hx ho hz
    go_wp2_with fail
    refine (faultof_none _).mono ?_
    rintro e w2 ⟨rfl, hx⟩
    have B2 := blk_later hx B1
    have r0 : w2.cell? ⟨w.heap.size + 1, 0, none⟩ = some (.int .i64 0) := by rw [blk_cell B2]; rfl
    have r1 : w2.cell? ⟨w.heap.size + 1, 1, none⟩ = some (.int .i64 0) := by rw [blk_cell B2]; rfl
    have r2 : w2.cell? ⟨w.heap.size + 1, 2, none⟩ = some (.int .i64 0) := by rw [blk_cell B2]; rfl
    have z := blk_frozen B2
    have hz := hB.trans (hx.mono hB.size)
    clear hx B1 B2 hB H0 hlay he hy
    go_wp2_with fail
    refine bodyPost_ret (v := FV 0 0 0) (by simp [results, Tryz.results7, go_sem, r0, r1, r2]) rfl ⟨?_, ?_⟩
    · rw [HR.out]; rfl
    · exact ((hz.setCell (p := ⟨w.heap.size + 1, 0, none⟩) (by simp) _).setCell (p := ⟨w.heap.size + 1, 1, none⟩) (by simp) _).setCell (p := ⟨w.heap.size + 1, 2, none⟩) (by simp) _
  · obtain ⟨⟨c, p, i⟩, ht⟩ : ∃ t, t = shapeV (xs.map FC.d) := ⟨_, rfl⟩
    have HR : Hid (shapeV (xs.map FC.d) = (c, p, i)) := ht.symm
    go_enter Tryz.func7, Tryz.ntmps7
    go_wp2_with fail
    refine (ishape_any a len cap xs _ (H0.later hy) hl (hlay.later hy)).mono ?_
    rw [ho, ← ht, show EV (some (c, p, i)) = .iface 72 (FV c p i) from rfl]
    rintro e w1 ⟨rfl, hx⟩
    have B1 := blk_later hx (blk_newn (k := w.heap.size + 1) (by simp) (FO 0 0 0))
    have hB := hy.trans (hx.mono hy.size)
    clear hx ho ht
    go_wp2_with fail
    refine (faultof_some c p i _ (he.later hB)).mono ?_
    rintro e w2 ⟨rfl, hx⟩
    have B2 := blk_later hx B1
    have r0 : w2.cell? ⟨w.heap.size + 1, 0, none⟩ = some (.int .i64 0) := by rw [blk_cell B2]; rfl
    have r1 : w2.cell? ⟨w.heap.size + 1, 1, none⟩ = some (.int .i64 0) := by rw [blk_cell B2]; rfl
    have r2 : w2.cell? ⟨w.heap.size + 1, 2, none⟩ = some (.int .i64 0) := by rw [blk_cell B2]; rfl
    have z := blk_frozen B2
    have hz := hB.trans (hx.mono hB.size)
    clear hx B1 B2 hB H0 hlay he hy
    go_wp2_with fail
    refine bodyPost_ret (v := FV c p i) (by simp [results, Tryz.results7, go_sem, r0, r1, r2]) rfl ⟨?_, ?_⟩
    · rw [HR.out]; rfl
    · exact ((hz.setCell (p := ⟨w.heap.size + 1, 0, none⟩) (by simp) _).setCell (p := ⟨w.heap.size + 1, 1, none⟩) (by simp) _).setCell (p := ⟨w.heap.size + 1, 2, none⟩) (by simp) _
end Go.Proofs.YtmicnjphlakoaaaGreatDoor
