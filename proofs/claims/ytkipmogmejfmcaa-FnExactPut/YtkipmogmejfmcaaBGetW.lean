/-
  OWN WORK. The program's Get, whole.
-/
import Derived.Test.YtkipmogmejfmcaaBGet
import Derived.Deep.CutRange
namespace Go.Proofs.Ytkipmogmejfmcaa
open Go.RowKit
attribute [local go_sem] run_store_float
set_option linter.unusedVariables false

theorem book_no (b off len cap : Nat) (ps : List PD) (turns : Int) (w : World) (hl : ps.length = len) (hp : PAt w b off ps) (hlen : len ≤ 1048576) (hok : ∀ p ∈ ps, p.ok) (ht : tokV ps turns = false) :
    Calls Try.prog 79 #[.agg #[.slice (some ⟨b, off, none⟩) len cap, .int .i64 turns]] w fun e w' => e = .returned (.pointer none) ∧ Below w.heap.size w w' := by
  refine (book_any b off len cap ps turns w hl hp hlen hok).mono ?_
  rintro e w1 ⟨hx, ⟨ht', _⟩ | ⟨_, rfl⟩⟩
  · rw [ht] at ht'; cases ht'
  · exact ⟨rfl, hx⟩
theorem book_yes (b off len cap : Nat) (ps : List PD) (turns : Int) (w : World) (hl : ps.length = len) (hp : PAt w b off ps) (hlen : len ≤ 1048576) (hok : ∀ p ∈ ps, p.ok) (ht : tokV ps turns = true) :
    Calls Try.prog 79 #[.agg #[.slice (some ⟨b, off, none⟩) len cap, .int .i64 turns]] w fun e w' => ∃ bk lb mb, e = .returned (.pointer (some ⟨bk, 0, none⟩)) ∧ (w.heap.size ≤ bk ∧ w.heap.size ≤ lb ∧ w.heap.size ≤ mb) ∧ Book w' bk lb mb (ps.length + 1) ps turns ∧ Below w.heap.size w w' := by
  refine (book_any b off len cap ps turns w hl hp hlen hok).mono ?_
  rintro e w1 ⟨hx, ⟨_, bk, lb, mb, rfl, h1, h2, h3, hB⟩ | ⟨ht', _⟩⟩
  · exact ⟨bk, lb, mb, rfl, ⟨h1, h2, h3⟩, hB, hx⟩
  · rw [ht] at ht'; cases ht'

/-- The three boxes ahead: the table, the key, the answer. -/
theorem box3 (w : World) (b off len cap : Nat) (turns : Int) (q : VD) : ∃ w1, w1 = ((w.alloc (.cells #[.slice (some ⟨b, off, none⟩) len cap, .int .i64 turns] 55)).alloc (VO q.k q.n q.f q.s q.r)).alloc (VO 0 0 0 ⟨#[]⟩ 0) ∧ Below w.heap.size w w1 ∧
    w1.cell? ⟨w.heap.size, 0, none⟩ = some (.slice (some ⟨b, off, none⟩) len cap) ∧ w1.cell? ⟨w.heap.size, 1, none⟩ = some (.int .i64 turns) ∧ VBox w1 (w.heap.size + 1) q ∧ Slot5 w1 (w.heap.size + 1 + 1) := by
  obtain ⟨b0, b1, b2⟩ := heap3 w (.cells #[.slice (some ⟨b, off, none⟩) len cap, .int .i64 turns] 55) (VO q.k q.n q.f q.s q.r) (VO 0 0 0 ⟨#[]⟩ 0)
  refine ⟨_, rfl, bw3 _ _ _ _, ?_, ?_, ⟨?_, ?_, ?_, ?_, ?_⟩, ⟨_, _, _, _, _, _, b2⟩⟩
  · rw [blk_cell b0]; rfl
  · rw [blk_cell b0]; rfl
  all_goals rw [blk_cell b1]; rfl

/-- A boxed answer. -/
def RBox (w : World) (g : Nat) (c : Int) (q : VD) : Prop := w.cell? ⟨g, 0, none⟩ = some (.int .i64 c) ∧ w.cell? ⟨g, 1, none⟩ = some (.int .i64 q.k) ∧ w.cell? ⟨g, 2, none⟩ = some (.int .i64 q.n) ∧ w.cell? ⟨g, 3, none⟩ = some (.float .f64 q.f) ∧ w.cell? ⟨g, 4, none⟩ = some (.string q.s) ∧ w.cell? ⟨g, 5, none⟩ = some (.int .i64 q.r)

theorem rbox_set {w : World} {g : Nat} (h : Slot w g) (c : Int) (q : VD) : RBox ((((((w.setCell ⟨g, 0, none⟩ (.int .i64 c)).setCell ⟨g, 1, none⟩ (.int .i64 q.k)).setCell ⟨g, 2, none⟩ (.int .i64 q.n)).setCell ⟨g, 3, none⟩ (.float .f64 q.f)).setCell ⟨g, 4, none⟩ (.string q.s)).setCell ⟨g, 5, none⟩ (.int .i64 q.r)) g c q := by
  obtain ⟨v0, v1, v2, v3, v4, v5, t, h⟩ := h
  have hb := blk_set (blk_set (blk_set (blk_set (blk_set (blk_set h 0 (.int .i64 c)) 1 (.int .i64 q.k)) 2 (.int .i64 q.n)) 3 (.float .f64 q.f)) 4 (.string q.s)) 5 (.int .i64 q.r)
  refine ⟨?_, ?_, ?_, ?_, ?_, ?_⟩ <;> rw [blk_cell hb] <;> simp

theorem slot5_set6 {w : World} {g k : Nat} (h : Slot5 w g) (hk : k ≠ g) (v0 v1 v2 v3 v4 v5 : Value) : Slot5 ((((((w.setCell ⟨k, 0, none⟩ v0).setCell ⟨k, 1, none⟩ v1).setCell ⟨k, 2, none⟩ v2).setCell ⟨k, 3, none⟩ v3).setCell ⟨k, 4, none⟩ v4).setCell ⟨k, 5, none⟩ v5) g := by
  obtain ⟨a0, a1, a2, a3, a4, t, h⟩ := h
  refine ⟨a0, a1, a2, a3, a4, t, ?_⟩
  iterate 6 rw [Below.heap_setCell _ _ _ _ (by simpa using hk.symm)]
  exact h

set_option maxRecDepth 20000 in
set_option maxHeartbeats 1000000 in
theorem iget_bad (b off len cap : Nat) (ps : List PD) (turns : Int) (q : VD) (w : World) (hl : ps.length = len) (hp : PAt w b off ps) (hlen : len ≤ 1048576) (hok : ∀ p ∈ ps, p.ok) (hq : q.ok) (ht : tokV ps turns = false) :
    Calls Try.prog 44 #[.agg #[.slice (some ⟨b, off, none⟩) len cap, .int .i64 turns], q.v] w fun e w' => e = .returned (VV 0 0 0 ⟨#[]⟩ 0) ∧ Below w.heap.size w w' := by
  obtain ⟨qc, hqc⟩ : ∃ qc, qc = (keyD q).1 := ⟨_, rfl⟩
  obtain ⟨q', hq'⟩ : ∃ q', q' = (keyD q).2 := ⟨_, rfl⟩
  have hU := keyV_D q
  rw [← hqc, ← hq'] at hU
  have HU : Hid (keyV q.k q.n q.f q.s q.r = RV qc q'.k q'.n q'.f q'.s q'.r) := hU
  clear hqc hq' hU
  obtain ⟨w1, hw, hb, t0, t1, hQ, sl⟩ := box3 w b off len cap turns q
  have HP : Hid (PAt w1 b off ps) := hp.later hb
  have HQ : Hid (VBox w1 (w.heap.size + 1) q) := hQ
  have HSL : Hid (Slot5 w1 (w.heap.size + 1 + 1)) := sl
  clear hp
  obtain ⟨d0, d1, d2, d3, d4⟩ := hQ
  have hz1 := World.block_lt_of_cell? _ _ t0
  have hz2 := World.block_lt_of_cell? _ _ d0
  have hz3 : w.heap.size + 1 + 1 < w1.heap.size := by obtain ⟨_, _, _, _, _, _, h⟩ := sl; exact (Array.getElem?_eq_some_iff.1 h).1
  clear sl
  go_enter Try.func44, Try.ntmps44
  go_upto_region 1 with fail
  rw [← hw]; clear hw
  go_cut [5, 6] from 7 to 10 (fun s5 s6 wx => s5 = .pointer none ∧ ∃ k6, s6 = .pointer (some ⟨k6, 0, none⟩) ∧ Hid (RBox wx k6 qc q') ∧ Hid (Slot5 wx (w.heap.size + 1 + 1)) ∧ Hid (Below w.heap.size w wx))
  case first =>
    go_region_with (first
      | (go_at_call 79; refine (book_no b off len cap ps turns _ hl (by exact HP.out.later (by first | exact (Below.refl _ _).drew | exact (bw1 _ _).drew)) hlen hok ht).mono ?_; rintro e w2 ⟨rfl, hx⟩; (first | (have hxa : Below (w1.alloc (.cells #[.int .i64 0, .int .i64 0, .int .i64 0, .float .f64 0, .string ⟨#[]⟩, .int .i64 0] 43)).heap.size (w1.alloc (.cells #[.int .i64 0, .int .i64 0, .int .i64 0, .float .f64 0, .string ⟨#[]⟩, .int .i64 0] 43)) w2 := und1 hx; obtain ⟨hx1, sx⟩ := box0s hxa; clear hxa) | have hx1 : Below w1.heap.size w1 w2 := und1 hx); replace d0 := cell_later hx1 d0; replace d1 := cell_later hx1 d1; replace d2 := cell_later hx1 d2; replace d3 := cell_later hx1 d3; replace d4 := cell_later hx1 d4; have hz4 := World.block_lt_of_cell? _ _ d0; clear hx)
      | (go_at_call 31; refine (ik_any _ _ _ _ _ _ hq.1).mono ?_; rw [HU.out]; rintro e w3 ⟨rfl, hx⟩; (first | (have hxa : Below (w2.alloc (.cells #[.int .i64 0, .int .i64 0, .int .i64 0, .float .f64 0, .string ⟨#[]⟩, .int .i64 0] 43)).heap.size (w2.alloc (.cells #[.int .i64 0, .int .i64 0, .int .i64 0, .float .f64 0, .string ⟨#[]⟩, .int .i64 0] 43)) w3 := hx; obtain ⟨hx3, sx⟩ := box0s hxa; clear hxa) | have hx3 : Below w2.heap.size w2 w3 := hx); (try (have sx' := Slot.later hx3 sx; clear sx; have sx := sx'; clear sx')); have hx2 := hx1.trans (hx3.mono hx1.size); (try (have hsx := Slot.cells sx; obtain ⟨y0, y1, y2, y3, y4, y5, m0, m1, m2, m3, m4, m5, z6, hz6⟩ := hsx)); clear hx))
    all_goals
      have hs1 := hb.size
      have hs2 := hx1.size
      have hs3 := hx2.size
      clear d0 d1 d2 d3 d4
      go_wp2_with fail
      go_meet
      first
        | exact ⟨rfl, _, rfl, rbox_set sx _ _, slot5_set6 (Slot5.later hx2 HSL.out) (by omega) _ _ _ _ _ _, below6 (hb.trans (hx2.mono hb.size)) (by omega) _ _ _ _ _ _⟩
        | (refine ⟨rfl, _, rfl, ⟨?_, ?_, ?_, ?_, ?_, ?_⟩, Slot5.later (bwN hx2 _) HSL.out, bwN (hb.trans (hx2.mono hb.size)) _⟩ <;> simp [go_sem])
  case rest =>
    obtain ⟨rfl, k6, rfl, HR, HS, HBl⟩ := hcut
    clear d0 d1 d2 d3 d4 t0 t1 hz1 hz2 hz3
    have sl := HS.out
    obtain ⟨v0, v1, v2, v3, v4, e0, e1, e2, e3, e4, z, hz⟩ := sl.cells
    go_wp2_with fail
    exact bodyPost_ret (v := VV 0 0 0 ⟨#[]⟩ 0) (by simp [results, Try.results44, go_sem, e0, e1, e2, e3, e4]) rfl ⟨rfl, below5 HBl.out (by omega) _ _ _ _ _⟩
end Go.Proofs.Ytkipmogmejfmcaa
