/-
  OWN WORK. Tables: two that hold the same are found so.
-/
import Derived.Test.YtkipmogmejfmcaaTabT
namespace Go.Proofs.Ytkipmogmejfmcaa
open Go.RowKit
attribute [local go_sem] run_store_float
set_option linter.unusedVariables false

theorem pbox_of {w : World} {g : Nat} {p : PD} {t : TypeId} (h : w.heap[g]? = some (.cells #[.int .i64 p.key.k, .int .i64 p.key.n, .float .f64 p.key.f, .string p.key.s, .int .i64 p.key.r, .int .i64 p.val.k, .int .i64 p.val.n, .float .f64 p.val.f, .string p.val.s, .int .i64 p.val.r, .int .i64 p.turn] t)) : PBox w g p := by
  refine ⟨?_, ?_, ?_, ?_, ?_, ?_, ?_, ?_, ?_, ?_, ?_⟩
  all_goals rw [blk_cell h]; rfl

theorem heap2 (w : World) (o p : Obj) : ((w.alloc o).alloc p).heap[w.heap.size]? = some o ∧ ((w.alloc o).alloc p).heap[w.heap.size + 1]? = some p := by
  refine ⟨?_, ?_⟩
  · show ((w.heap.push _).push _)[w.heap.size]? = _
    simp only [Array.getElem?_push, Array.size_push]
    rw [if_neg (by omega), if_pos trivial]
  · show ((w.heap.push _).push _)[w.heap.size + 1]? = _
    simp only [Array.getElem?_push, Array.size_push]
    rw [if_pos trivial]

set_option maxRecDepth 20000 in
set_option maxHeartbeats 1000000 in
theorem eqp (p : PD) (w : World) : Calls Try.prog 83 #[PVal p, PVal p] w fun e w' => e = .returned (.bool true) ∧ Below w.heap.size w w' := by
  go_enter Try.func83, Try.ntmps83
  go_wp2_with fail
  refine (eqv _ _ _ _ _ _).mono ?_
  rintro e w1 ⟨rfl, hx⟩
  obtain ⟨h0, h1⟩ := heap2 w (.cells #[.int .i64 p.key.k, .int .i64 p.key.n, .float .f64 p.key.f, .string p.key.s, .int .i64 p.key.r, .int .i64 p.val.k, .int .i64 p.val.n, .float .f64 p.val.f, .string p.val.s, .int .i64 p.val.r, .int .i64 p.turn] 60) (.cells #[.int .i64 p.key.k, .int .i64 p.key.n, .float .f64 p.key.f, .string p.key.s, .int .i64 p.key.r, .int .i64 p.val.k, .int .i64 p.val.n, .float .f64 p.val.f, .string p.val.s, .int .i64 p.val.r, .int .i64 p.turn] 60)
  have b0 := pbox_of (p := p) ((hx.block w.heap.size (by simp; omega)).trans h0)
  have b1 := pbox_of (p := p) ((hx.block (w.heap.size + 1) (by simp)).trans h1)
  have hb := (bw2 _ _ _).trans (hx.mono (by simp; omega))
  clear hx h0 h1
  obtain ⟨_, _, _, _, _, c5, c6, c7, c8, c9, c10⟩ := id b0
  obtain ⟨_, _, _, _, _, d5, d6, d7, d8, d9, d10⟩ := id b1
  go_wp2_with fail
  refine (eqv _ _ _ _ _ _).mono ?_
  rintro e w2 ⟨rfl, hx⟩
  replace hb := hb.trans (hx.mono hb.size)
  replace c10 := cell_later hx c10; replace d10 := cell_later hx d10
  clear hx c5 c6 c7 c8 c9 d5 d6 d7 d8 d9 b0 b1
  go_wp2_with fail
  go_ret
  exact ⟨rfl, hb⟩

set_option maxRecDepth 20000 in
set_option maxHeartbeats 1000000 in
theorem eqs_some (b off cap b' off' cap' len : Nat) (ps : List PD) (w : World) (hl : ps.length = len) (hp : PAt w b off ps) (hp' : PAt w b' off' ps) (hlen : len ≤ 1048576) :
    Calls Try.prog 80 #[.slice (some ⟨b, off, none⟩) len cap, .slice (some ⟨b', off', none⟩) len cap'] w fun e w' => e = .returned (.bool true) ∧ Below w.heap.size w w' := by
  have HP : Hid (PAt w b off ps) := hp
  have HP' : Hid (PAt w b' off' ps) := hp'
  clear hp hp'
  go_enter Try.func80, Try.ntmps80
  go_wp2_with fail
  go_loopw [5] (fun i wr => ∃ m : Nat, m ≤ len ∧ i = .int .i64 m ∧ Below w.heap.size w wr) (fun i _ => len - (intOf i).toNat)
  case atStart => exact ⟨0, Nat.zero_le _, rfl, Below.refl _ _⟩
  case round =>
    obtain ⟨m, hm, rfl, hB⟩ := hrel
    by_cases k1 : m < len
    · obtain ⟨p, hpm⟩ : ∃ p, ps[m]? = some p := ⟨ps[m]'(by omega), by simp⟩
      have c0 : wr.cell? ⟨b, off + m * 11, none⟩ = some (.int .i64 p.key.k) := cell_later hB (HP.out m p hpm 0 _ rfl)
      have c1 : wr.cell? ⟨b, off + m * 11 + 1, none⟩ = some (.int .i64 p.key.n) := cell_later hB (HP.out m p hpm 1 _ rfl)
      have c2 : wr.cell? ⟨b, off + m * 11 + 2, none⟩ = some (.float .f64 p.key.f) := cell_later hB (HP.out m p hpm 2 _ rfl)
      have c3 : wr.cell? ⟨b, off + m * 11 + 3, none⟩ = some (.string p.key.s) := cell_later hB (HP.out m p hpm 3 _ rfl)
      have c4 : wr.cell? ⟨b, off + m * 11 + 4, none⟩ = some (.int .i64 p.key.r) := cell_later hB (HP.out m p hpm 4 _ rfl)
      have c5 : wr.cell? ⟨b, off + m * 11 + 5, none⟩ = some (.int .i64 p.val.k) := cell_later hB (HP.out m p hpm 5 _ rfl)
      have c6 : wr.cell? ⟨b, off + m * 11 + 6, none⟩ = some (.int .i64 p.val.n) := cell_later hB (HP.out m p hpm 6 _ rfl)
      have c7 : wr.cell? ⟨b, off + m * 11 + 7, none⟩ = some (.float .f64 p.val.f) := cell_later hB (HP.out m p hpm 7 _ rfl)
      have c8 : wr.cell? ⟨b, off + m * 11 + 8, none⟩ = some (.string p.val.s) := cell_later hB (HP.out m p hpm 8 _ rfl)
      have c9 : wr.cell? ⟨b, off + m * 11 + 9, none⟩ = some (.int .i64 p.val.r) := cell_later hB (HP.out m p hpm 9 _ rfl)
      have c10 : wr.cell? ⟨b, off + m * 11 + 10, none⟩ = some (.int .i64 p.turn) := cell_later hB (HP.out m p hpm 10 _ rfl)
      have d0 : wr.cell? ⟨b', off' + m * 11, none⟩ = some (.int .i64 p.key.k) := cell_later hB (HP'.out m p hpm 0 _ rfl)
      have d1 : wr.cell? ⟨b', off' + m * 11 + 1, none⟩ = some (.int .i64 p.key.n) := cell_later hB (HP'.out m p hpm 1 _ rfl)
      have d2 : wr.cell? ⟨b', off' + m * 11 + 2, none⟩ = some (.float .f64 p.key.f) := cell_later hB (HP'.out m p hpm 2 _ rfl)
      have d3 : wr.cell? ⟨b', off' + m * 11 + 3, none⟩ = some (.string p.key.s) := cell_later hB (HP'.out m p hpm 3 _ rfl)
      have d4 : wr.cell? ⟨b', off' + m * 11 + 4, none⟩ = some (.int .i64 p.key.r) := cell_later hB (HP'.out m p hpm 4 _ rfl)
      have d5 : wr.cell? ⟨b', off' + m * 11 + 5, none⟩ = some (.int .i64 p.val.k) := cell_later hB (HP'.out m p hpm 5 _ rfl)
      have d6 : wr.cell? ⟨b', off' + m * 11 + 6, none⟩ = some (.int .i64 p.val.n) := cell_later hB (HP'.out m p hpm 6 _ rfl)
      have d7 : wr.cell? ⟨b', off' + m * 11 + 7, none⟩ = some (.float .f64 p.val.f) := cell_later hB (HP'.out m p hpm 7 _ rfl)
      have d8 : wr.cell? ⟨b', off' + m * 11 + 8, none⟩ = some (.string p.val.s) := cell_later hB (HP'.out m p hpm 8 _ rfl)
      have d9 : wr.cell? ⟨b', off' + m * 11 + 9, none⟩ = some (.int .i64 p.val.r) := cell_later hB (HP'.out m p hpm 9 _ rfl)
      have d10 : wr.cell? ⟨b', off' + m * 11 + 10, none⟩ = some (.int .i64 p.turn) := cell_later hB (HP'.out m p hpm 10 _ rfl)
      clear hpm
      go_wp2_with fail
      go_region_with (go_at_call 83; refine (eqp p _).mono ?_; rintro e w1 ⟨rfl, hx⟩)
      all_goals
        replace hx := und1 hx
        replace hB := hB.trans (hx.mono hB.size)
        clear hx
        clear c0 c1 c2 c3 c4 c5 c6 c7 c8 c9 c10
        clear d0 d1 d2 d3 d4 d5 d6 d7 d8 d9 d10
        go_wp2_with fail
        go_roundw
        case rel => exact ⟨m + 1, by omega, by go_num, hB⟩
        case measure => simp [intOf]; omega
    · go_wp2_with fail
      go_ret
      exact ⟨rfl, hB⟩

set_option maxRecDepth 20000 in
set_option maxHeartbeats 1000000 in
theorem eqt_some (b off cap b' off' cap' len : Nat) (turns : Int) (ps : List PD) (w : World) (hl : ps.length = len) (hp : PAt w b off ps) (hp' : PAt w b' off' ps) (hlen : len ≤ 1048576) :
    Calls Try.prog 39 #[.agg #[.slice (some ⟨b, off, none⟩) len cap, .int .i64 turns], .agg #[.slice (some ⟨b', off', none⟩) len cap', .int .i64 turns]] w fun e w' => e = .returned (.bool true) ∧ Below w.heap.size w w' := by
  have HP : Hid (PAt w b off ps) := hp
  have HP' : Hid (PAt w b' off' ps) := hp'
  clear hp hp'
  go_enter Try.func39, Try.ntmps39
  go_wp2_with fail
  refine (eqs_some b off cap b' off' cap' len ps _ hl (HP.out.later (bw2 _ _ _)) (HP'.out.later (bw2 _ _ _)) hlen).mono ?_
  rintro e w1 ⟨rfl, hx⟩
  obtain ⟨h0, h1⟩ := heap2 w (.cells #[.slice (some ⟨b, off, none⟩) len cap, .int .i64 turns] 55) (.cells #[.slice (some ⟨b', off', none⟩) len cap', .int .i64 turns] 55)
  have c1 : w1.cell? ⟨w.heap.size, 1, none⟩ = some (.int .i64 turns) := by rw [blk_cell ((hx.block w.heap.size (by simp; omega)).trans h0)]; rfl
  have d1 : w1.cell? ⟨w.heap.size + 1, 1, none⟩ = some (.int .i64 turns) := by rw [blk_cell ((hx.block (w.heap.size + 1) (by simp)).trans h1)]; rfl
  have hb := (bw2 _ _ _).trans (hx.mono (by simp; omega))
  clear hx h0 h1
  go_wp2_with fail
  go_ret
  exact ⟨rfl, hb⟩
end Go.Proofs.Ytkipmogmejfmcaa
