/-
  OWN WORK. Tables: Get, After and Length of the specification, whole.
-/
import Derived.Test.YtkipmogmejfmcaaTabLen
namespace Go.Proofs.Ytkipmogmejfmcaa
open Go.RowKit
attribute [local go_sem] run_store_float
set_option linter.unusedVariables false

def vd0 : VD := ⟨0, 0, 0, ⟨#[]⟩, 0⟩

/-- What Key makes of a value: a code and a value. -/
def keyD (q : VD) : Int × VD :=
  if vok q.k q.n q.f q.s q.r = false then (1, vd0)
  else if q.k = 0 then (5, vd0)
  else if q.k = 3 then
    (if FloatKind.f64.format.order q.f q.f ≠ some .eq then (5, vd0)
     else if FloatKind.f64.format.order q.f Fl.C63 = some .lt ∧ (FloatKind.f64.format.order q.f Fl.N63 = some .gt ∨ FloatKind.f64.format.order q.f Fl.N63 = some .eq) ∧ FloatKind.f64.format.order q.f (Fl.flr q.f) = some .eq then (0, vint ((floatToIntVal .f64 q.f .i64).getD 0))
     else (0, ⟨3, q.n, q.f, q.s, q.r⟩))
  else (0, q)

theorem keyV_D (q : VD) : keyV q.k q.n q.f q.s q.r = RV (keyD q).1 (keyD q).2.k (keyD q).2.n (keyD q).2.f (keyD q).2.s (keyD q).2.r := by
  unfold keyV keyD
  split
  · rfl
  · split
    · rfl
    · split
      · unfold keyF
        split
        · rfl
        · split
          · rfl
          · rfl
      · rfl

theorem fidx_get (q : VD) (ps : List PD) (i : Nat) : fidx q ps i = -1 ∨ ∃ (m : Nat) (p : PD), fidx q ps i = ((i + m : Nat) : Int) ∧ ps[m]? = some p := by
  induction ps generalizing i with
  | nil => exact .inl rfl
  | cons p ps ih =>
    unfold fidx
    split
    · exact .inr ⟨0, p, by simp, rfl⟩
    · rcases ih (i + 1) with h | ⟨m, x, h1, h2⟩
      · exact .inl h
      · exact .inr ⟨m + 1, x, by rw [h1]; congr 1; omega, by simpa using h2⟩

/-- What Get answers, in a valid table. -/
def getL (ps : List PD) (q : VD) : VD := if (keyD q).1 = 0 then (if fidx (keyD q).2 ps 0 < 0 then vd0 else ((ps[(fidx (keyD q).2 ps 0).toNat]?.map (·.val)).getD vd0)) else vd0
/-- What Get answers. -/
def getV (ps : List PD) (turns : Int) (q : VD) : VD := if tokV ps turns = true then getL ps q else vd0

theorem getl_any (b off len cap : Nat) (ps : List PD) (turns : Int) (q : VD) (w : World) (hl : ps.length = len) (hp : PAt w b off ps) (hlen : len ≤ 1048576) (hok : ∀ p ∈ ps, p.ok) (hq : q.ok) :
    Calls Try.prog 84 #[.agg #[.slice (some ⟨b, off, none⟩) len cap, .int .i64 turns], VV q.k q.n q.f q.s q.r] w fun e w' => e = .returned (VV (getL ps q).k (getL ps q).n (getL ps q).f (getL ps q).s (getL ps q).r) ∧ Below w.heap.size w w' := by
  have hU := keyV_D q
  by_cases h0 : (keyD q).1 = 0
  · rw [h0] at hU
    have hq' : (keyD q).2.ok := keyV_ok hq.1 hq.2 hU
    by_cases hi : fidx (keyD q).2 ps 0 < 0
    · have e : getL ps q = vd0 := by unfold getL; rw [if_pos h0, if_pos hi]
      rw [e]; exact get_none b off len cap ps turns q w hl hp hlen hok hq (keyD q).2 hq' hU hi
    · rcases fidx_get (keyD q).2 ps 0 with h | ⟨m, p, h1, h2⟩
      · omega
      · rw [Nat.zero_add] at h1
        have hm : m < len := by rw [← hl]; exact (List.getElem?_eq_some_iff.1 h2).1
        have e : getL ps q = p.val := by unfold getL; rw [if_pos h0, if_neg hi, h1, Int.toNat_natCast, h2]; rfl
        rw [e]; exact get_some b off len cap ps turns q w hl hp hlen hok hq (keyD q).2 hq' hU m p hm h2 h1
  · have e : getL ps q = vd0 := by unfold getL; rw [if_neg h0]
    rw [e]; exact get_code b off len cap turns q w hq _ _ _ _ _ _ (by simpa using h0) hU

set_option maxRecDepth 20000 in
set_option maxHeartbeats 1000000 in
theorem gets_bad (b off len cap : Nat) (ps : List PD) (turns : Int) (q : VD) (w : World) (hl : ps.length = len) (hp : PAt w b off ps) (hlen : len ≤ 1048576) (hok : ∀ p ∈ ps, p.ok) (ht : tokV ps turns = false) :
    Calls Try.prog 43 #[.agg #[.slice (some ⟨b, off, none⟩) len cap, .int .i64 turns], VV q.k q.n q.f q.s q.r] w fun e w' => e = .returned (VV 0 0 0 ⟨#[]⟩ 0) ∧ Below w.heap.size w w' := by
  have HP : Hid (PAt w b off ps) := hp
  clear hp
  go_enter Try.func43, Try.ntmps43
  go_wp2_with fail
  refine (tok_any b off len cap ps turns _ hl (by exact HP.out.later (bw3 _ _ _ _)) hlen hok).mono ?_
  rintro e w1 ⟨rfl, hx⟩
  obtain ⟨h0, h1, h2⟩ := heap3 w (.cells #[.slice (some ⟨b, off, none⟩) len cap, .int .i64 turns] 55) (VO q.k q.n q.f q.s q.r) (VO 0 0 0 ⟨#[]⟩ 0)
  have sl : Slot5 w1 (w.heap.size + 1 + 1) := ⟨_, _, _, _, _, _, (hx.block (w.heap.size + 1 + 1) (by simp)).trans h2⟩
  have hb := (bw3 _ _ _ _).trans (hx.mono (by simp; omega))
  clear hx h0 h1 h2
  obtain ⟨v0, v1, v2, v3, v4, d0, d1, d2, d3, d4, z, hz⟩ := sl.cells
  go_wp2_with fail
  exact bodyPost_ret (v := VV 0 0 0 ⟨#[]⟩ 0) (by simp [results, Try.results43, go_sem, d0, d1, d2, d3, d4]) rfl ⟨rfl, below5 hb (by omega) _ _ _ _ _⟩

set_option maxRecDepth 20000 in
set_option maxHeartbeats 1000000 in
theorem gets_ok (b off len cap : Nat) (ps : List PD) (turns : Int) (q : VD) (w : World) (hl : ps.length = len) (hp : PAt w b off ps) (hlen : len ≤ 1048576) (hok : ∀ p ∈ ps, p.ok) (hq : q.ok) (ht : tokV ps turns = true) :
    Calls Try.prog 43 #[.agg #[.slice (some ⟨b, off, none⟩) len cap, .int .i64 turns], VV q.k q.n q.f q.s q.r] w fun e w' => e = .returned (VV (getL ps q).k (getL ps q).n (getL ps q).f (getL ps q).s (getL ps q).r) ∧ Below w.heap.size w w' := by
  have HP : Hid (PAt w b off ps) := hp
  clear hp
  obtain ⟨gv, hgv⟩ : ∃ gv, gv = getL ps q := ⟨_, rfl⟩
  rw [← hgv]
  have HG : Hid (gv = getL ps q) := hgv
  clear hgv
  go_enter Try.func43, Try.ntmps43
  go_wp2_with fail
  refine (tok_any b off len cap ps turns _ hl (by exact HP.out.later (bw3 _ _ _ _)) hlen hok).mono ?_
  rintro e w1 ⟨rfl, hx⟩
  obtain ⟨h0, h1, h2⟩ := heap3 w (.cells #[.slice (some ⟨b, off, none⟩) len cap, .int .i64 turns] 55) (VO q.k q.n q.f q.s q.r) (VO 0 0 0 ⟨#[]⟩ 0)
  have sl : Slot5 w1 (w.heap.size + 1 + 1) := ⟨_, _, _, _, _, _, (hx.block (w.heap.size + 1 + 1) (by simp)).trans h2⟩
  have b0 := (hx.block w.heap.size (by simp; omega)).trans h0
  have b1 := (hx.block (w.heap.size + 1) (by simp)).trans h1
  have t0 : w1.cell? ⟨w.heap.size, 0, none⟩ = some (.slice (some ⟨b, off, none⟩) len cap) := by rw [blk_cell b0]; rfl
  have t1 : w1.cell? ⟨w.heap.size, 1, none⟩ = some (.int .i64 turns) := by rw [blk_cell b0]; rfl
  have q0 : w1.cell? ⟨w.heap.size + 1, 0, none⟩ = some (.int .i64 q.k) := by rw [blk_cell b1]; rfl
  have q1 : w1.cell? ⟨w.heap.size + 1, 1, none⟩ = some (.int .i64 q.n) := by rw [blk_cell b1]; rfl
  have q2 : w1.cell? ⟨w.heap.size + 1, 2, none⟩ = some (.float .f64 q.f) := by rw [blk_cell b1]; rfl
  have q3 : w1.cell? ⟨w.heap.size + 1, 3, none⟩ = some (.string q.s) := by rw [blk_cell b1]; rfl
  have q4 : w1.cell? ⟨w.heap.size + 1, 4, none⟩ = some (.int .i64 q.r) := by rw [blk_cell b1]; rfl
  have hb := (bw3 _ _ _ _).trans (hx.mono (by simp; omega))
  clear hx h0 h1 h2 b0 b1
  go_wp2_with fail
  refine (getl_any b off len cap ps turns q _ hl (by exact HP.out.later hb) hlen hok hq).mono ?_
  rw [← HG.out]
  rintro e w2 ⟨rfl, hx⟩
  replace hb := hb.trans (hx.mono hb.size)
  replace sl := Slot5.later hx sl
  clear hx t0 t1 q0 q1 q2 q3 q4
  obtain ⟨v0, v1, v2, v3, v4, d0, d1, d2, d3, d4, z, hz⟩ := sl.cells
  go_wp2_with fail
  exact bodyPost_ret (v := VV gv.k gv.n gv.f gv.s gv.r) (by simp [results, Try.results43, go_sem, d0, d1, d2, d3, d4]) rfl ⟨rfl, below5 hb (by omega) _ _ _ _ _⟩

set_option maxRecDepth 20000 in
set_option maxHeartbeats 1000000 in
theorem lens_any (b off len cap : Nat) (ps : List PD) (turns : Int) (w : World) (hl : ps.length = len) (hp : PAt w b off ps) (hlen : len ≤ 1048576) (hok : ∀ p ∈ ps, p.ok) :
    Calls Try.prog 46 #[.agg #[.slice (some ⟨b, off, none⟩) len cap, .int .i64 turns]] w fun e w' => e = .returned (.int .i64 (if tokV ps turns = true then ((lenF ps (len + 1) 0 : Nat) : Int) else 0)) ∧ Below w.heap.size w w' := by
  have HP : Hid (PAt w b off ps) := hp
  clear hp
  by_cases ht : tokV ps turns = true
  · rw [if_pos ht]
    go_enter Try.func46, Try.ntmps46
    go_wp2_with fail
    refine (tok_any b off len cap ps turns _ hl (by exact HP.out.later (bw1 _ _)) hlen hok).mono ?_
    rintro e w1 ⟨rfl, hx⟩
    have t0 : w1.cell? ⟨w.heap.size, 0, none⟩ = some (.slice (some ⟨b, off, none⟩) len cap) := by rw [hx.cell (by simp)]; simp [go_sem]
    have t1 : w1.cell? ⟨w.heap.size, 1, none⟩ = some (.int .i64 turns) := by rw [hx.cell (by simp)]; simp [go_sem]
    have hb := (bw1 _ _).trans (hx.mono (by simp))
    clear hx
    go_wp2_with fail
    refine (len_any b off len cap ps turns _ hl (by exact HP.out.later hb) hlen hok).mono ?_
    rintro e w2 ⟨rfl, hx⟩
    replace hb := hb.trans (hx.mono hb.size)
    go_wp2_with fail
    go_ret
    exact ⟨rfl, hb⟩
  · rw [if_neg ht]
    replace ht : tokV ps turns = false := by simpa using ht
    go_enter Try.func46, Try.ntmps46
    go_wp2_with fail
    refine (tok_any b off len cap ps turns _ hl (by exact HP.out.later (bw1 _ _)) hlen hok).mono ?_
    rintro e w1 ⟨rfl, hx⟩
    have hb := (bw1 _ _).trans (hx.mono (by simp))
    clear hx
    go_wp2_with fail
    go_ret
    exact ⟨rfl, hb⟩
end Go.Proofs.Ytkipmogmejfmcaa
