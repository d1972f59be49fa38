/-
  OWN WORK. Tables in memory: pairs as rows of eleven cells; the specification's search for a key.
-/
import Derived.Test.YtkipmogmejfmcaaSame
import Derived.Deep.RegionWith
namespace Go.Proofs.Ytkipmogmejfmcaa
open Go.RowKit
attribute [local go_sem] run_store_float
set_option linter.unusedVariables false

/-- A value of the document, as data. -/
structure VD where
  k : Int
  n : Int
  f : Nat
  s : ByteArray
  r : Int

/-- A pair, as data. -/
structure PD where
  key : VD
  val : VD
  turn : Int

def VD.ok (v : VD) : Prop := v.f < 18446744073709551616 ∧ v.s.size ≤ maxLen

def VD.cells (v : VD) : List Value := [.int .i64 v.k, .int .i64 v.n, .float .f64 v.f, .string v.s, .int .i64 v.r]
def PD.cells (p : PD) : List Value := p.key.cells ++ (p.val.cells ++ [.int .i64 p.turn])

/-- Pairs lie as a row from an offset on. -/
def PAt (w : World) (b off : Nat) (ps : List PD) : Prop := ∀ i p, ps[i]? = some p → ∀ j v, p.cells[j]? = some v → w.cell? ⟨b, off + i * 11 + j, none⟩ = some v

/-- The five cells of a boxed value. -/
def VBox (w : World) (b : Nat) (v : VD) : Prop := w.cell? ⟨b, 0, none⟩ = some (.int .i64 v.k) ∧ w.cell? ⟨b, 1, none⟩ = some (.int .i64 v.n) ∧ w.cell? ⟨b, 2, none⟩ = some (.float .f64 v.f) ∧ w.cell? ⟨b, 3, none⟩ = some (.string v.s) ∧ w.cell? ⟨b, 4, none⟩ = some (.int .i64 v.r)

/-- The five cells of a value, from an offset on. -/
def VAt (w : World) (b off : Nat) (v : VD) : Prop := w.cell? ⟨b, off, none⟩ = some (.int .i64 v.k) ∧ w.cell? ⟨b, off + 1, none⟩ = some (.int .i64 v.n) ∧ w.cell? ⟨b, off + 2, none⟩ = some (.float .f64 v.f) ∧ w.cell? ⟨b, off + 3, none⟩ = some (.string v.s) ∧ w.cell? ⟨b, off + 4, none⟩ = some (.int .i64 v.r)

theorem und1 {B : Nat} {w w' : World} (h : Below B w.drew w') : Below B w w' := ⟨h.os, h.tape, h.output, h.size, h.block⟩
theorem VBox.later {w wx : World} {b : Nat} {v : VD} (hb : Below w.heap.size w wx) (h : VBox w b v) : VBox wx b v := ⟨cell_later hb h.1, cell_later hb h.2.1, cell_later hb h.2.2.1, cell_later hb h.2.2.2.1, cell_later hb h.2.2.2.2⟩
theorem PAt.later {w wx : World} {b off : Nat} {ps : List PD} (hb : Below w.heap.size w wx) (h : PAt w b off ps) : PAt wx b off ps := fun i p hi j v hv => cell_later hb (h i p hi j v hv)

/-- The place of the first pair whose key is the same. -/
def fidx (q : VD) : List PD → Nat → Int
  | [], _ => -1
  | p :: ps, i => if samV p.key.k p.key.n p.key.f p.key.s p.key.r q.k q.n q.f q.s q.r = true then (i : Int) else fidx q ps (i + 1)

set_option maxRecDepth 20000 in
set_option maxHeartbeats 1000000 in
theorem at_some (b off len cap : Nat) (ps : List PD) (turns : Int) (q : VD) (w : World) (hl : ps.length = len) (hp : PAt w b off ps) (hlen : len ≤ 1048576) (hok : ∀ p ∈ ps, p.key.ok) (hq : q.ok) :
    Calls Try.prog 113 #[.agg #[.slice (some ⟨b, off, none⟩) len cap, .int .i64 turns], VV q.k q.n q.f q.s q.r] w fun e w' => e = .returned (.int .i64 (fidx q ps 0)) ∧ Below w.heap.size w w' := by
  go_enter Try.func113, Try.ntmps113
  go_wp2
  go_loopw [5, 9] (fun i c wr => ∃ m : Nat, m ≤ len ∧ c = .int .i64 m ∧ Below w.heap.size w wr ∧ wr.cell? ⟨w.heap.size, 0, none⟩ = some (.slice (some ⟨b, off, none⟩) len cap) ∧ VBox wr (w.heap.size + 1) q ∧ Hid (fidx q (ps.drop m) m = fidx q ps 0)) (fun _ c _ => len - (intOf c).toNat)
  case atStart => exact ⟨0, Nat.zero_le _, rfl, bw2 _ _ _, by simp [go_sem], by simp [VBox, go_sem], rfl⟩
  case round =>
    obtain ⟨m, hm, rfl, hB, t0, hQ, hF⟩ := hrel
    by_cases h1 : m < len
    · obtain ⟨p, hpm⟩ : ∃ p, ps[m]? = some p := ⟨ps[m]'(by omega), by simp⟩
      have c0 : wr.cell? ⟨b, off + m * 11, none⟩ = some (.int .i64 p.key.k) := cell_later hB (hp m p hpm 0 _ rfl)
      have c1 : wr.cell? ⟨b, off + m * 11 + 1, none⟩ = some (.int .i64 p.key.n) := cell_later hB (hp m p hpm 1 _ rfl)
      have c2 : wr.cell? ⟨b, off + m * 11 + 2, none⟩ = some (.float .f64 p.key.f) := cell_later hB (hp m p hpm 2 _ rfl)
      have c3 : wr.cell? ⟨b, off + m * 11 + 3, none⟩ = some (.string p.key.s) := cell_later hB (hp m p hpm 3 _ rfl)
      have c4 : wr.cell? ⟨b, off + m * 11 + 4, none⟩ = some (.int .i64 p.key.r) := cell_later hB (hp m p hpm 4 _ rfl)
      have hpk : p.key.ok := hok p (List.mem_of_getElem? hpm)
      have hdr : ps.drop m = p :: ps.drop (m + 1) := by
        obtain ⟨hlt, he⟩ := List.getElem?_eq_some_iff.1 hpm
        rw [List.drop_eq_getElem_cons hlt, he]
      have HD : Hid ((if samV p.key.k p.key.n p.key.f p.key.s p.key.r q.k q.n q.f q.s q.r = true then (m : Int) else fidx q (ps.drop (m + 1)) (m + 1)) = fidx q ps 0) := by
        have := hF.out; rw [hdr] at this; exact this
      clear hpm hdr hF hok
      have HP : Hid (PAt w b off ps) := hp
      clear hp
      obtain ⟨q0, q1, q2, q3, q4⟩ := id hQ
      by_cases hsam : samV p.key.k p.key.n p.key.f p.key.s p.key.r q.k q.n q.f q.s q.r = true
      · have HR : Hid ((m : Int) = fidx q ps 0) := by have := HD.out; rw [if_pos hsam] at this; exact this
        clear HD
        go_wp2_with fail
        go_region_with (go_at_call 28; refine (ss_any _ _ _ _ _ _ _ _ _ _ _ hpk.2 hq.2 hpk.1 hq.1).mono ?_; rintro e w1 ⟨rfl, hx⟩)
        all_goals
          replace hx := und1 hx
          replace hB := hB.trans (hx.mono hB.size)
          clear hx
          go_wp2_with fail
          go_ret
          exact ⟨ret_i HR.out, hB⟩
      · have hsam' : samV p.key.k p.key.n p.key.f p.key.s p.key.r q.k q.n q.f q.s q.r = false := by simpa using hsam
        have HR : Hid (fidx q (ps.drop (m + 1)) (m + 1) = fidx q ps 0) := by have := HD.out; rw [if_neg hsam] at this; exact this
        clear HD hsam
        go_wp2_with fail
        go_region_with (go_at_call 28; refine (ss_any _ _ _ _ _ _ _ _ _ _ _ hpk.2 hq.2 hpk.1 hq.1).mono ?_; rintro e w1 ⟨rfl, hx⟩)
        all_goals
          replace hx := und1 hx
          replace hB := hB.trans (hx.mono hB.size)
          replace hQ := VBox.later hx hQ
          replace t0 := cell_later hx t0
          clear hx c0 c1 c2 c3 c4 q0 q1 q2 q3 q4
          go_wp2_with fail
          go_roundw
          case rel => exact ⟨m + 1, by omega, by go_num, hB, t0, hQ, HR⟩
          case measure => simp [intOf]; omega
    · have HR : Hid (-1 = fidx q ps 0) := by
        have := hF.out
        rw [List.drop_of_length_le (by omega)] at this
        exact this
      clear hF
      go_wp2_with fail
      go_ret
      exact ⟨ret_i HR.out, hB⟩
end Go.Proofs.Ytkipmogmejfmcaa
