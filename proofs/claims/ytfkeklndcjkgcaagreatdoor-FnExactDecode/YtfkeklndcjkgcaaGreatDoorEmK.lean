import Derived.Test.YtfkeklndcjkgcaaGreatDoorEsB
import Derived.Test.YtfkeklndcjkgcaaGreatDoorPText
import Derived.Test.YtfkeklndcjkgcaaGreatDoorCPTo
/-
  OWN WORK. The laws' marks on a code: which blocks are written. (Written by tools/genmark.py.)
-/
namespace Go.Proofs.YtfkeklndcjkgcaaGreatDoor
open Go.RowKit
attribute [local go_sem] run_store_float
set_option linter.unusedVariables false
set_option linter.unusedSimpArgs false

/-- All is as it was but one block, which is as long as it was. -/
structure MR (g : Nat) (T : TypeId) (n : Nat) (w w' : World) : Prop where
  os : w'.os = w.os
  tape : w'.tape = w.tape
  output : w'.output = w.output
  size : w.heap.size ≤ w'.heap.size
  block : ∀ j, j < w.heap.size → j ≠ g → w'.heap[j]? = w.heap[j]?
  row : ∃ ar, w'.heap[g]? = some (.cells ar T) ∧ ar.size = n
theorem MR.refl {g : Nat} {T : TypeId} {n : Nat} {w : World} (h : ∃ ar, w.heap[g]? = some (.cells ar T) ∧ ar.size = n) : MR g T n w w := ⟨rfl, rfl, rfl, Nat.le_refl _, fun _ _ _ => rfl, h⟩
theorem MR.set {g : Nat} {T : TypeId} {n : Nat} {w w' : World} (h : MR g T n w w') (j : Nat) (v : Value) : MR g T n w (w'.setCell ⟨g, j, none⟩ v) :=
  ⟨h.os, h.tape, h.output, by simpa using h.size, fun q hq hn => by rw [Below.heap_setCell _ _ _ _ (by show q ≠ g; exact hn)]; exact h.block q hq hn, by
    obtain ⟨ar, h1, h2⟩ := h.row
    exact ⟨_, blk_set h1 j v, by simpa using h2⟩⟩
theorem MR.later {g : Nat} {T : TypeId} {n : Nat} {w w1 w2 : World} (h : MR g T n w w1) (hb : Below w1.heap.size w1 w2) : MR g T n w w2 :=
  ⟨hb.os.trans h.os, hb.tape.trans h.tape, hb.output.trans h.output, Nat.le_trans h.size hb.size, fun q hq hn => (hb.block q (Nat.lt_of_lt_of_le hq h.size)).trans (h.block q hq hn), by
    obtain ⟨ar, h1, h2⟩ := h.row
    exact ⟨ar, blk_later hb h1, h2⟩⟩
theorem MR.cell {g : Nat} {T : TypeId} {n : Nat} {w w' : World} (h : MR g T n w w') (j : Nat) (hj : j < n) : ∃ y, w'.cell? ⟨g, j, none⟩ = some y := by
  obtain ⟨ar, h1, h2⟩ := h.row
  exact ⟨ar[j]'(by omega), by rw [blk_cell h1]; simp⟩
theorem MR.froz {g : Nat} {T : TypeId} {n : Nat} {w w' : World} (h : MR g T n w w') (j : Nat) : w'.frozen? ⟨g, j, none⟩ = false := by
  obtain ⟨ar, h1, h2⟩ := h.row
  exact blk_frozen h1 j

theorem mtx_int (z : Int) (w : World) (h0 : 0 < z) (h1 : z ≤ 100000000000000) :
    Calls Tryz.prog 69 #[.int .i64 z] w fun e w' => (∃ s, e = .returned (.string s)) ∧ Below w.heap.size w w' := by
  obtain ⟨k, rfl⟩ : ∃ k : Nat, z = (k : Int) := ⟨z.toNat, by omega⟩
  exact (mtx_any k w (by omega) (by omega)).mono fun e w' h => ⟨⟨_, h.1⟩, h.2⟩

set_option maxRecDepth 20000 in
set_option maxHeartbeats 4000000 in
theorem markUpS_mr (g len cap n k0 : Nat) (T : TypeId) (w : World) (hg : ∃ ar, w.heap[g]? = some (.cells ar T) ∧ ar.size = n) (hs : len * 2 ≤ n) (hlen : len ≤ 1048576) (h0 : 0 < k0) (hk : k0 ≤ 30000000000000) :
    Calls Tryz.prog 70 #[.slice (some ⟨g, 0, none⟩) len cap, .int .i64 (k0 : Int)] w fun e w' => e = .returned (.int .i64 ((k0 + 2 * len : Nat) : Int)) ∧ MR g T n w w' := by
  have HG : Hid (MR g T n w w) := MR.refl hg
  clear hg
  go_enter Tryz.func70, Tryz.ntmps70
  go_wp2_with fail
  go_loopw [1, 5] (fun kk ii wr => ∃ (m K : Nat), m ≤ len ∧ ii = .int .i64 m ∧ kk = .int .i64 (K : Int) ∧ 0 < K ∧ K ≤ 40000000000000 ∧ Hid (K = k0 + 2 * m) ∧ Hid (MR g T n w wr)) (fun _ ii _ => len - (intOf ii).toNat)
  case atStart => exact ⟨0, k0, Nat.zero_le _, rfl, rfl, h0, by omega, rfl, HG⟩
  case round =>
    clear HG
    obtain ⟨m, K, hm, rfl, rfl, hK0, hK1, HK, HM⟩ := hrel
    by_cases k1 : m < len
    · obtain ⟨y0, e0⟩ : ∃ y, wr.cell? ⟨g, m * 2, none⟩ = some y := HM.out.cell _ (by omega)
      obtain ⟨y1, e1⟩ : ∃ y, wr.cell? ⟨g, m * 2 + 1, none⟩ = some y := HM.out.cell _ (by omega)
      have z0 := HM.out.froz
      go_wp2_with fail
      go_roundw
      case rel => exact ⟨m + 1, K + 2, by omega, by go_num, by congr 1 <;> omega, by omega, by have := HK.out; omega, by have := HK.out; show K + 2 = _; omega, ((HM.out.set _ _).set _ _)⟩
      case measure => simp [intOf]; omega
    · have hml : m = len := by omega
      have HR : Hid ((K : Int) = ((k0 + 2 * len : Nat) : Int)) := by have := HK.out; show _ = _; rw [this, hml]
      clear HK
      go_wp2_with fail
      go_ret
      exact ⟨by show Ending.returned (.int .i64 (K : Int)) = _; rw [HR.out], HM.out⟩

set_option maxRecDepth 20000 in
set_option maxHeartbeats 4000000 in
theorem markInsS_mr (g len cap n k0 : Nat) (T : TypeId) (w : World) (hg : ∃ ar, w.heap[g]? = some (.cells ar T) ∧ ar.size = n) (hs : len * 5 ≤ n) (hlen : len ≤ 1048576) (h0 : 0 < k0) (hk : k0 ≤ 30000000000000) :
    Calls Tryz.prog 72 #[.slice (some ⟨g, 0, none⟩) len cap, .int .i64 (k0 : Int)] w fun e w' => e = .returned (.int .i64 ((k0 + 5 * len : Nat) : Int)) ∧ MR g T n w w' := by
  have HG : Hid (MR g T n w w) := MR.refl hg
  clear hg
  go_enter Tryz.func72, Tryz.ntmps72
  go_wp2_with fail
  go_loopw [1, 5] (fun kk ii wr => ∃ (m K : Nat), m ≤ len ∧ ii = .int .i64 m ∧ kk = .int .i64 (K : Int) ∧ 0 < K ∧ K ≤ 40000000000000 ∧ Hid (K = k0 + 5 * m) ∧ Hid (MR g T n w wr)) (fun _ ii _ => len - (intOf ii).toNat)
  case atStart => exact ⟨0, k0, Nat.zero_le _, rfl, rfl, h0, by omega, rfl, HG⟩
  case round =>
    clear HG
    obtain ⟨m, K, hm, rfl, rfl, hK0, hK1, HK, HM⟩ := hrel
    by_cases k1 : m < len
    · obtain ⟨y0, e0⟩ : ∃ y, wr.cell? ⟨g, m * 5, none⟩ = some y := HM.out.cell _ (by omega)
      obtain ⟨y1, e1⟩ : ∃ y, wr.cell? ⟨g, m * 5 + 1, none⟩ = some y := HM.out.cell _ (by omega)
      obtain ⟨y2, e2⟩ : ∃ y, wr.cell? ⟨g, m * 5 + 2, none⟩ = some y := HM.out.cell _ (by omega)
      obtain ⟨y3, e3⟩ : ∃ y, wr.cell? ⟨g, m * 5 + 3, none⟩ = some y := HM.out.cell _ (by omega)
      obtain ⟨y4, e4⟩ : ∃ y, wr.cell? ⟨g, m * 5 + 4, none⟩ = some y := HM.out.cell _ (by omega)
      have z0 := HM.out.froz
      go_wp2_with fail
      go_roundw
      case rel => exact ⟨m + 1, K + 5, by omega, by go_num, by congr 1 <;> omega, by omega, by have := HK.out; omega, by have := HK.out; show K + 5 = _; omega, (((((HM.out.set _ _).set _ _).set _ _).set _ _).set _ _)⟩
      case measure => simp [intOf]; omega
    · have hml : m = len := by omega
      have HR : Hid ((K : Int) = ((k0 + 5 * len : Nat) : Int)) := by have := HK.out; show _ = _; rw [this, hml]
      clear HK
      go_wp2_with fail
      go_ret
      exact ⟨by show Ending.returned (.int .i64 (K : Int)) = _; rw [HR.out], HM.out⟩

set_option maxRecDepth 20000 in
set_option maxHeartbeats 4000000 in
theorem markValueS_mr (g len cap n k0 : Nat) (T : TypeId) (w : World) (hg : ∃ ar, w.heap[g]? = some (.cells ar T) ∧ ar.size = n) (hs : len * 5 ≤ n) (hlen : len ≤ 1048576) (h0 : 0 < k0) (hk : k0 ≤ 30000000000000) :
    Calls Tryz.prog 71 #[.slice (some ⟨g, 0, none⟩) len cap, .int .i64 (k0 : Int)] w fun e w' => e = .returned (.int .i64 ((k0 + 5 * len : Nat) : Int)) ∧ MR g T n w w' := by
  have HG : Hid (MR g T n w w) := MR.refl hg
  clear hg
  go_enter Tryz.func71, Tryz.ntmps71
  go_wp2_with fail
  go_loopw [1, 5] (fun kk ii wr => ∃ (m K : Nat), m ≤ len ∧ ii = .int .i64 m ∧ kk = .int .i64 (K : Int) ∧ 0 < K ∧ K ≤ 40000000000000 ∧ Hid (K = k0 + 5 * m) ∧ Hid (MR g T n w wr)) (fun _ ii _ => len - (intOf ii).toNat)
  case atStart => exact ⟨0, k0, Nat.zero_le _, rfl, rfl, h0, by omega, rfl, HG⟩
  case round =>
    clear HG
    obtain ⟨m, K, hm, rfl, rfl, hK0, hK1, HK, HM⟩ := hrel
    by_cases k1 : m < len
    · obtain ⟨y0, e0⟩ : ∃ y, wr.cell? ⟨g, m * 5, none⟩ = some y := HM.out.cell _ (by omega)
      obtain ⟨y1, e1⟩ : ∃ y, wr.cell? ⟨g, m * 5 + 1, none⟩ = some y := HM.out.cell _ (by omega)
      obtain ⟨y2, e2⟩ : ∃ y, wr.cell? ⟨g, m * 5 + 2, none⟩ = some y := HM.out.cell _ (by omega)
      have z0 := HM.out.froz
      go_wp2_with fail
      refine (mtx_int _ _ (by omega) (by omega)).mono ?_
      rintro e w1 ⟨⟨s1, rfl⟩, hx⟩
      have HM1 : Hid (MR g T n w w1) := ((((HM.out.set _ _).set _ _).set _ _)).later hx
      clear hx HM e0 e1 e2 z0
      obtain ⟨y3, e3⟩ : ∃ y, w1.cell? ⟨g, m * 5 + 3, none⟩ = some y := HM1.out.cell _ (by omega)
      obtain ⟨y4, e4⟩ : ∃ y, w1.cell? ⟨g, m * 5 + 4, none⟩ = some y := HM1.out.cell _ (by omega)
      have z3 := HM1.out.froz
      go_wp2_with fail
      go_roundw
      case rel => exact ⟨m + 1, K + 5, by omega, by go_num, by congr 1 <;> omega, by omega, by have := HK.out; omega, by have := HK.out; show K + 5 = _; omega, ((HM1.out.set _ _).set _ _)⟩
      case measure => simp [intOf]; omega
    · have hml : m = len := by omega
      have HR : Hid ((K : Int) = ((k0 + 5 * len : Nat) : Int)) := by have := HK.out; show _ = _; rw [this, hml]
      clear HK
      go_wp2_with fail
      go_ret
      exact ⟨by show Ending.returned (.int .i64 (K : Int)) = _; rw [HR.out], HM.out⟩

set_option maxRecDepth 20000 in
set_option maxHeartbeats 4000000 in
theorem markNamedS_mr (g len cap n k0 : Nat) (T : TypeId) (w : World) (hg : ∃ ar, w.heap[g]? = some (.cells ar T) ∧ ar.size = n) (hs : len * 4 ≤ n) (hlen : len ≤ 1048576) (h0 : 0 < k0) (hk : k0 ≤ 30000000000000) :
    Calls Tryz.prog 73 #[.slice (some ⟨g, 0, none⟩) len cap, .int .i64 (k0 : Int)] w fun e w' => e = .returned (.int .i64 ((k0 + 4 * len : Nat) : Int)) ∧ MR g T n w w' := by
  have HG : Hid (MR g T n w w) := MR.refl hg
  clear hg
  go_enter Tryz.func73, Tryz.ntmps73
  go_wp2_with fail
  go_loopw [1, 5] (fun kk ii wr => ∃ (m K : Nat), m ≤ len ∧ ii = .int .i64 m ∧ kk = .int .i64 (K : Int) ∧ 0 < K ∧ K ≤ 40000000000000 ∧ Hid (K = k0 + 4 * m) ∧ Hid (MR g T n w wr)) (fun _ ii _ => len - (intOf ii).toNat)
  case atStart => exact ⟨0, k0, Nat.zero_le _, rfl, rfl, h0, by omega, rfl, HG⟩
  case round =>
    clear HG
    obtain ⟨m, K, hm, rfl, rfl, hK0, hK1, HK, HM⟩ := hrel
    by_cases k1 : m < len
    · go_wp2_with fail
      refine (mtx_int _ _ (by omega) (by omega)).mono ?_
      rintro e w1 ⟨⟨s1, rfl⟩, hx⟩
      have HM1 : Hid (MR g T n w w1) := (HM.out).later hx
      clear hx HM 
      obtain ⟨y0, e0⟩ : ∃ y, w1.cell? ⟨g, m * 4, none⟩ = some y := HM1.out.cell _ (by omega)
      obtain ⟨y1, e1⟩ : ∃ y, w1.cell? ⟨g, m * 4 + 1, none⟩ = some y := HM1.out.cell _ (by omega)
      obtain ⟨y2, e2⟩ : ∃ y, w1.cell? ⟨g, m * 4 + 2, none⟩ = some y := HM1.out.cell _ (by omega)
      obtain ⟨y3, e3⟩ : ∃ y, w1.cell? ⟨g, m * 4 + 3, none⟩ = some y := HM1.out.cell _ (by omega)
      have z0 := HM1.out.froz
      go_wp2_with fail
      go_roundw
      case rel => exact ⟨m + 1, K + 4, by omega, by go_num, by congr 1 <;> omega, by omega, by have := HK.out; omega, by have := HK.out; show K + 4 = _; omega, ((((HM1.out.set _ _).set _ _).set _ _).set _ _)⟩
      case measure => simp [intOf]; omega
    · have hml : m = len := by omega
      have HR : Hid ((K : Int) = ((k0 + 4 * len : Nat) : Int)) := by have := HK.out; show _ = _; rw [this, hml]
      clear HK
      go_wp2_with fail
      go_ret
      exact ⟨by show Ending.returned (.int .i64 (K : Int)) = _; rw [HR.out], HM.out⟩
end Go.Proofs.YtfkeklndcjkgcaaGreatDoor

/-
  OWN WORK. The laws' marks on a code: protos.
-/
namespace Go.Proofs.YtfkeklndcjkgcaaGreatDoor
open Go.RowKit
attribute [local go_sem] run_store_float
set_option linter.unusedVariables false
set_option linter.unusedSimpArgs false

/-- A row of protos of one's own, and its lists: only what marks leave as it is. -/
structure PR (w : World) (gP len : Nat) (ys : List FC) : Prop where
  row : ∃ ar, w.heap[gP]? = some (.cells ar 50) ∧ ar.size = len * 9 ∧ ∀ i y, ys[i]? = some y → ar[i * 9 + 5]? = some (.slice y.au y.d.ups.length y.cu) ∧ ar[i * 9 + 6]? = some (.slice y.ac y.d.consts.length y.cc) ∧ ar[i * 9 + 7]? = some (.slice y.ai y.d.ins.length y.ci) ∧ ar[i * 9 + 8]? = some (.slice y.an y.d.named.length y.cn)
  u : ∀ y ∈ ys, ∃ g, gP < g ∧ y.au = some ⟨g, 0, none⟩ ∧ ∃ ar, w.heap[g]? = some (.cells ar 110) ∧ ar.size = y.d.ups.length * 2
  c : ∀ y ∈ ys, ∃ g, gP < g ∧ y.ac = some ⟨g, 0, none⟩ ∧ ∃ ar, w.heap[g]? = some (.cells ar 113) ∧ ar.size = y.d.consts.length * 5
  i : ∀ y ∈ ys, ∃ g, gP < g ∧ y.ai = some ⟨g, 0, none⟩ ∧ ∃ ar, w.heap[g]? = some (.cells ar 52) ∧ ar.size = y.d.ins.length * 5
  n : ∀ y ∈ ys, ∃ g, gP < g ∧ y.an = some ⟨g, 0, none⟩ ∧ ∃ ar, w.heap[g]? = some (.cells ar 116) ∧ ar.size = y.d.named.length * 4
theorem PR.lt {w : World} {gP len : Nat} {ys : List FC} (h : PR w gP len ys) : gP < w.heap.size := by
  obtain ⟨ar, h1, _⟩ := h.row
  exact blk_lt h1
theorem PR.later {w w' : World} {gP len : Nat} {ys : List FC} (h : PR w gP len ys) (hb : Below w.heap.size w w') : PR w' gP len ys :=
  ⟨h.row.imp fun ar k => ⟨blk_later hb k.1, k.2⟩, fun y hy => (h.u y hy).imp fun g k => ⟨k.1, k.2.1, k.2.2.imp fun ar q => ⟨blk_later hb q.1, q.2⟩⟩, fun y hy => (h.c y hy).imp fun g k => ⟨k.1, k.2.1, k.2.2.imp fun ar q => ⟨blk_later hb q.1, q.2⟩⟩, fun y hy => (h.i y hy).imp fun g k => ⟨k.1, k.2.1, k.2.2.imp fun ar q => ⟨blk_later hb q.1, q.2⟩⟩, fun y hy => (h.n y hy).imp fun g k => ⟨k.1, k.2.1, k.2.2.imp fun ar q => ⟨blk_later hb q.1, q.2⟩⟩⟩
theorem arr_keep {ar : Array Value} {i m j : Nat} {v x : Value} (hj : j < 5) (q : Nat) (h5 : 5 ≤ q) (h9 : q < 9) (h : ar[i * 9 + q]? = some x) : (ar.setIfInBounds (m * 9 + j) v)[i * 9 + q]? = some x := by
  rw [Array.getElem?_setIfInBounds, if_neg (by omega)]; exact h
theorem PR.set {w : World} {gP len : Nat} {ys : List FC} (h : PR w gP len ys) (m j : Nat) (hj : j < 5) (v : Value) : PR (w.setCell ⟨gP, m * 9 + j, none⟩ v) gP len ys :=
  ⟨by
    obtain ⟨ar, h1, h2, h3⟩ := h.row
    refine ⟨_, blk_set h1 (m * 9 + j) v, by simpa using h2, fun i y hy => ?_⟩
    obtain ⟨a, b, c, d⟩ := h3 i y hy
    exact ⟨arr_keep hj 5 (by omega) (by omega) a, arr_keep hj 6 (by omega) (by omega) b, arr_keep hj 7 (by omega) (by omega) c, arr_keep hj 8 (by omega) (by omega) d⟩,
   fun y hy => (h.u y hy).imp fun g k => ⟨k.1, k.2.1, k.2.2.imp fun ar q => ⟨blk_other q.1 (by have := k.1; omega) _ _, q.2⟩⟩, fun y hy => (h.c y hy).imp fun g k => ⟨k.1, k.2.1, k.2.2.imp fun ar q => ⟨blk_other q.1 (by have := k.1; omega) _ _, q.2⟩⟩, fun y hy => (h.i y hy).imp fun g k => ⟨k.1, k.2.1, k.2.2.imp fun ar q => ⟨blk_other q.1 (by have := k.1; omega) _ _, q.2⟩⟩, fun y hy => (h.n y hy).imp fun g k => ⟨k.1, k.2.1, k.2.2.imp fun ar q => ⟨blk_other q.1 (by have := k.1; omega) _ _, q.2⟩⟩⟩
theorem mr_list {w w' : World} {g g' n n' : Nat} {T T' : TypeId} (hm : MR g T n w w') (hg : ∃ ar, w.heap[g]? = some (.cells ar T) ∧ ar.size = n) (h : ∃ ar, w.heap[g']? = some (.cells ar T') ∧ ar.size = n') : ∃ ar, w'.heap[g']? = some (.cells ar T') ∧ ar.size = n' := by
  by_cases he : g' = g
  · subst he
    obtain ⟨ar, h1, h2⟩ := hg
    obtain ⟨ar', h3, h4⟩ := h
    rw [h1] at h3
    cases h3
    rw [← h4, h2]
    exact hm.row
  · obtain ⟨ar', h3, h4⟩ := h
    exact ⟨ar', (hm.block g' (blk_lt h3) he).trans h3, h4⟩
theorem PR.mr {w w' : World} {gP len g n : Nat} {T : TypeId} {ys : List FC} (h : PR w gP len ys) (hm : MR g T n w w') (hne : gP < g) (hg : ∃ ar, w.heap[g]? = some (.cells ar T) ∧ ar.size = n) : PR w' gP len ys :=
  ⟨h.row.imp fun ar k => ⟨(hm.block gP h.lt (by omega)).trans k.1, k.2⟩, fun y hy => (h.u y hy).imp fun q k => ⟨k.1, k.2.1, mr_list hm hg k.2.2⟩, fun y hy => (h.c y hy).imp fun q k => ⟨k.1, k.2.1, mr_list hm hg k.2.2⟩, fun y hy => (h.i y hy).imp fun q k => ⟨k.1, k.2.1, mr_list hm hg k.2.2⟩, fun y hy => (h.n y hy).imp fun q k => ⟨k.1, k.2.1, mr_list hm hg k.2.2⟩⟩

/-- What lay before, and rows of bytes, are as they were. -/
structure Fr (lo : Nat) (w w' : World) : Prop where
  os : w'.os = w.os
  tape : w'.tape = w.tape
  output : w'.output = w.output
  size : w.heap.size ≤ w'.heap.size
  block : ∀ j, j < w.heap.size → (j < lo ∨ ∃ arr fz, w.heap[j]? = some (.cells arr 5 fz)) → w'.heap[j]? = w.heap[j]?
theorem Fr.refl (lo : Nat) (w : World) : Fr lo w w := ⟨rfl, rfl, rfl, Nat.le_refl _, fun _ _ _ => rfl⟩
theorem Fr.trans {lo : Nat} {w w1 w2 : World} (h : Fr lo w w1) (h' : Fr lo w1 w2) : Fr lo w w2 :=
  ⟨h'.os.trans h.os, h'.tape.trans h.tape, h'.output.trans h.output, Nat.le_trans h.size h'.size, fun j hj hk => by
    have e := h.block j hj hk
    refine (h'.block j (Nat.lt_of_lt_of_le hj h.size) ?_).trans e
    rcases hk with hk | ⟨arr, fz, hk⟩
    · exact .inl hk
    · exact .inr ⟨arr, fz, e.trans hk⟩⟩
theorem Fr.of_below {lo : Nat} {w w' : World} (h : Below w.heap.size w w') : Fr lo w w' := ⟨h.os, h.tape, h.output, h.size, fun j hj _ => h.block j hj⟩
theorem Fr.mr {lo g n : Nat} {T : TypeId} {w w' : World} (hm : MR g T n w w') (hg : ∃ ar, w.heap[g]? = some (.cells ar T) ∧ ar.size = n) (hlo : lo ≤ g) (hT : T ≠ 5) : Fr lo w w' :=
  ⟨hm.os, hm.tape, hm.output, hm.size, fun j hj hk => hm.block j hj (fun he => by
    subst he
    rcases hk with hk | ⟨arr, fz, hk⟩
    · omega
    · obtain ⟨ar, h1, _⟩ := hg
      rw [h1] at hk
      cases hk
      exact hT rfl)⟩
theorem Fr.set {lo gP : Nat} {w w' : World} {ar : Array Value} {T : TypeId} (h : Fr lo w w') (hg : w'.heap[gP]? = some (.cells ar T)) (hT : T ≠ 5) (hlo : lo ≤ gP) (j : Nat) (v : Value) : Fr lo w (w'.setCell ⟨gP, j, none⟩ v) :=
  h.trans ⟨rfl, rfl, rfl, by simp, fun q hq hk => Below.heap_setCell _ _ _ _ (fun he => by
    have he' : q = gP := he
    subst he'
    rcases hk with hk | ⟨arr, fz, hk⟩
    · omega
    · rw [hg] at hk
      cases hk
      exact hT rfl)⟩
/-- The row and the frame, carried together. -/
structure PF (w : World) (gP len : Nat) (ys : List FC) (w' : World) : Prop where
  r : PR w' gP len ys
  f : Fr gP w w'
theorem PF.set {w w' : World} {gP len : Nat} {ys : List FC} (h : PF w gP len ys w') (m j : Nat) (hj : j < 5) (v : Value) : PF w gP len ys (w'.setCell ⟨gP, m * 9 + j, none⟩ v) := by
  obtain ⟨ar, h1, _⟩ := h.r.row
  exact ⟨h.r.set m j hj v, h.f.set h1 (by decide) (Nat.le_refl _) _ _⟩
theorem PF.later {w w1 w2 : World} {gP len : Nat} {ys : List FC} (h : PF w gP len ys w1) (hb : Below w1.heap.size w1 w2) : PF w gP len ys w2 := ⟨h.r.later hb, h.f.trans (Fr.of_below hb)⟩
theorem PF.mr {w w1 w2 : World} {gP len g n : Nat} {T : TypeId} {ys : List FC} (h : PF w gP len ys w1) (hm : MR g T n w1 w2) (hne : gP < g) (hg : ∃ ar, w1.heap[g]? = some (.cells ar T) ∧ ar.size = n) (hT : T ≠ 5) : PF w gP len ys w2 :=
  ⟨h.r.mr hm hne hg, h.f.trans (Fr.mr hm hg (by omega) hT)⟩
theorem PF.cell {w w' : World} {gP len : Nat} {ys : List FC} (h : PF w gP len ys w') (j : Nat) (hj : j < len * 9) : ∃ y, w'.cell? ⟨gP, j, none⟩ = some y := by
  obtain ⟨ar, h1, h2, _⟩ := h.r.row
  exact ⟨ar[j]'(by omega), by rw [blk_cell h1]; simp⟩
theorem PF.froz {w w' : World} {gP len : Nat} {ys : List FC} (h : PF w gP len ys w') (j : Nat) : w'.frozen? ⟨gP, j, none⟩ = false := by
  obtain ⟨ar, h1, _⟩ := h.r.row
  exact blk_frozen h1 j
theorem PF.heads {w w' : World} {gP len : Nat} {ys : List FC} (h : PF w gP len ys w') {i : Nat} {y : FC} (hy : ys[i]? = some y) : w'.cell? ⟨gP, i * 9 + 5, none⟩ = some (.slice y.au y.d.ups.length y.cu) ∧ w'.cell? ⟨gP, i * 9 + 6, none⟩ = some (.slice y.ac y.d.consts.length y.cc) ∧ w'.cell? ⟨gP, i * 9 + 7, none⟩ = some (.slice y.ai y.d.ins.length y.ci) ∧ w'.cell? ⟨gP, i * 9 + 8, none⟩ = some (.slice y.an y.d.named.length y.cn) := by
  obtain ⟨ar, h1, _, h3⟩ := h.r.row
  obtain ⟨a, b, c, d⟩ := h3 i y hy
  exact ⟨(blk_cell h1 _).trans a, (blk_cell h1 _).trans b, (blk_cell h1 _).trans c, (blk_cell h1 _).trans d⟩

theorem markUpS_int (g len cap n : Nat) (z : Int) (T : TypeId) (w : World) (hg : ∃ ar, w.heap[g]? = some (.cells ar T) ∧ ar.size = n) (hs : len * 2 ≤ n) (hlen : len ≤ 1048576) (h0 : 0 < z) (hk : z ≤ 30000000000000) :
    Calls Tryz.prog 70 #[.slice (some ⟨g, 0, none⟩) len cap, .int .i64 z] w fun e w' => e = .returned (.int .i64 (z + 2 * (len : Int))) ∧ MR g T n w w' := by
  obtain ⟨k0, rfl⟩ : ∃ k0 : Nat, z = (k0 : Int) := ⟨z.toNat, by omega⟩
  refine (markUpS_mr g len cap n k0 T w hg hs hlen (by omega) (by omega)).mono fun e w' h => ⟨h.1.trans ?_, h.2⟩
  congr 2

theorem markValueS_int (g len cap n : Nat) (z : Int) (T : TypeId) (w : World) (hg : ∃ ar, w.heap[g]? = some (.cells ar T) ∧ ar.size = n) (hs : len * 5 ≤ n) (hlen : len ≤ 1048576) (h0 : 0 < z) (hk : z ≤ 30000000000000) :
    Calls Tryz.prog 71 #[.slice (some ⟨g, 0, none⟩) len cap, .int .i64 z] w fun e w' => e = .returned (.int .i64 (z + 5 * (len : Int))) ∧ MR g T n w w' := by
  obtain ⟨k0, rfl⟩ : ∃ k0 : Nat, z = (k0 : Int) := ⟨z.toNat, by omega⟩
  refine (markValueS_mr g len cap n k0 T w hg hs hlen (by omega) (by omega)).mono fun e w' h => ⟨h.1.trans ?_, h.2⟩
  congr 2

theorem markInsS_int (g len cap n : Nat) (z : Int) (T : TypeId) (w : World) (hg : ∃ ar, w.heap[g]? = some (.cells ar T) ∧ ar.size = n) (hs : len * 5 ≤ n) (hlen : len ≤ 1048576) (h0 : 0 < z) (hk : z ≤ 30000000000000) :
    Calls Tryz.prog 72 #[.slice (some ⟨g, 0, none⟩) len cap, .int .i64 z] w fun e w' => e = .returned (.int .i64 (z + 5 * (len : Int))) ∧ MR g T n w w' := by
  obtain ⟨k0, rfl⟩ : ∃ k0 : Nat, z = (k0 : Int) := ⟨z.toNat, by omega⟩
  refine (markInsS_mr g len cap n k0 T w hg hs hlen (by omega) (by omega)).mono fun e w' h => ⟨h.1.trans ?_, h.2⟩
  congr 2

theorem markNamedS_int (g len cap n : Nat) (z : Int) (T : TypeId) (w : World) (hg : ∃ ar, w.heap[g]? = some (.cells ar T) ∧ ar.size = n) (hs : len * 4 ≤ n) (hlen : len ≤ 1048576) (h0 : 0 < z) (hk : z ≤ 30000000000000) :
    Calls Tryz.prog 73 #[.slice (some ⟨g, 0, none⟩) len cap, .int .i64 z] w fun e w' => e = .returned (.int .i64 (z + 4 * (len : Int))) ∧ MR g T n w w' := by
  obtain ⟨k0, rfl⟩ : ∃ k0 : Nat, z = (k0 : Int) := ⟨z.toNat, by omega⟩
  refine (markNamedS_mr g len cap n k0 T w hg hs hlen (by omega) (by omega)).mono fun e w' h => ⟨h.1.trans ?_, h.2⟩
  congr 2

theorem markUpS_pf {w w1 : World} {gP len : Nat} {ys : List FC} {y : FC} (h : PF w gP len ys w1) (hy : y ∈ ys) (g : Nat) (ha : y.au = some ⟨g, 0, none⟩) (n cap : Nat) (hn : n = y.d.ups.length) (hlen : n ≤ 1048576) (z : Int) (h0 : 0 < z) (hk : z ≤ 30000000000000) :
    Calls Tryz.prog 70 #[.slice (some ⟨g, 0, none⟩) n cap, .int .i64 z] w1 fun e w' => e = .returned (.int .i64 (z + 2 * (n : Int))) ∧ PF w gP len ys w' := by
  obtain ⟨g', hg, ha', hr⟩ := h.r.u y hy
  rw [ha] at ha'
  cases ha'
  exact (markUpS_int g n cap _ z _ w1 hr (by rw [hn]; exact Nat.le_refl _) hlen h0 hk).mono fun e w' q => ⟨q.1, h.mr q.2 hg hr (by decide)⟩

theorem markValueS_pf {w w1 : World} {gP len : Nat} {ys : List FC} {y : FC} (h : PF w gP len ys w1) (hy : y ∈ ys) (g : Nat) (ha : y.ac = some ⟨g, 0, none⟩) (n cap : Nat) (hn : n = y.d.consts.length) (hlen : n ≤ 1048576) (z : Int) (h0 : 0 < z) (hk : z ≤ 30000000000000) :
    Calls Tryz.prog 71 #[.slice (some ⟨g, 0, none⟩) n cap, .int .i64 z] w1 fun e w' => e = .returned (.int .i64 (z + 5 * (n : Int))) ∧ PF w gP len ys w' := by
  obtain ⟨g', hg, ha', hr⟩ := h.r.c y hy
  rw [ha] at ha'
  cases ha'
  exact (markValueS_int g n cap _ z _ w1 hr (by rw [hn]; exact Nat.le_refl _) hlen h0 hk).mono fun e w' q => ⟨q.1, h.mr q.2 hg hr (by decide)⟩

theorem markInsS_pf {w w1 : World} {gP len : Nat} {ys : List FC} {y : FC} (h : PF w gP len ys w1) (hy : y ∈ ys) (g : Nat) (ha : y.ai = some ⟨g, 0, none⟩) (n cap : Nat) (hn : n = y.d.ins.length) (hlen : n ≤ 1048576) (z : Int) (h0 : 0 < z) (hk : z ≤ 30000000000000) :
    Calls Tryz.prog 72 #[.slice (some ⟨g, 0, none⟩) n cap, .int .i64 z] w1 fun e w' => e = .returned (.int .i64 (z + 5 * (n : Int))) ∧ PF w gP len ys w' := by
  obtain ⟨g', hg, ha', hr⟩ := h.r.i y hy
  rw [ha] at ha'
  cases ha'
  exact (markInsS_int g n cap _ z _ w1 hr (by rw [hn]; exact Nat.le_refl _) hlen h0 hk).mono fun e w' q => ⟨q.1, h.mr q.2 hg hr (by decide)⟩

theorem markNamedS_pf {w w1 : World} {gP len : Nat} {ys : List FC} {y : FC} (h : PF w gP len ys w1) (hy : y ∈ ys) (g : Nat) (ha : y.an = some ⟨g, 0, none⟩) (n cap : Nat) (hn : n = y.d.named.length) (hlen : n ≤ 1048576) (z : Int) (h0 : 0 < z) (hk : z ≤ 30000000000000) :
    Calls Tryz.prog 73 #[.slice (some ⟨g, 0, none⟩) n cap, .int .i64 z] w1 fun e w' => e = .returned (.int .i64 (z + 4 * (n : Int))) ∧ PF w gP len ys w' := by
  obtain ⟨g', hg, ha', hr⟩ := h.r.n y hy
  rw [ha] at ha'
  cases ha'
  exact (markNamedS_int g n cap _ z _ w1 hr (by rw [hn]; exact Nat.le_refl _) hlen h0 hk).mono fun e w' q => ⟨q.1, h.mr q.2 hg hr (by decide)⟩

theorem PF.five {w w' : World} {gP len : Nat} {ys : List FC} (h : PF w gP len ys w') (m : Nat) (v0 v1 v2 v3 v4 : Value) : PF w gP len ys (((((w'.setCell ⟨gP, m * 9, none⟩ v0).setCell ⟨gP, m * 9 + 1, none⟩ v1).setCell ⟨gP, m * 9 + 2, none⟩ v2).setCell ⟨gP, m * 9 + 3, none⟩ v3).setCell ⟨gP, m * 9 + 4, none⟩ v4) :=
  ((((h.set m 0 (by omega) v0).set m 1 (by omega) v1).set m 2 (by omega) v2).set m 3 (by omega) v3).set m 4 (by omega) v4


set_option maxRecDepth 20000 in
set_option maxHeartbeats 8000000 in
theorem markProtoS_any (gP len cap : Nat) (ys : List FC) (w : World) (h : PR w gP len ys) (hl : ys.length = len) (hlen : len ≤ 1048576) (hok : ∀ y ∈ ys, y.d.ok) :
    Calls Tryz.prog 36 #[.slice (some ⟨gP, 0, none⟩) len cap, .int .i64 1] w fun e w' => (∃ k : Int, 0 ≤ k ∧ e = .returned (.int .i64 k)) ∧ Fr gP w w' := by
  have HL : Hid (ys.length = len) := hl
  have HO : Hid (∀ y ∈ ys, y.d.ok) := hok
  have H0 : Hid (PF w gP len ys w) := ⟨h, Fr.refl _ _⟩
  clear h hl hok
  go_enter Tryz.func36, Tryz.ntmps36
  go_wp2_with fail
  go_loopw [1, 5] (fun kk ii wr => ∃ (m : Nat) (K : Int), m ≤ len ∧ ii = .int .i64 m ∧ kk = .int .i64 K ∧ 0 < K ∧ K ≤ 1 + (m : Int) * 16777221 ∧ Hid (PF w gP len ys wr)) (fun _ ii _ => len - (intOf ii).toNat)
  case atStart => exact ⟨0, 1, Nat.zero_le _, rfl, rfl, by omega, by omega, H0⟩
  case round =>
    clear H0
    obtain ⟨m, K, hm, rfl, rfl, hK0, hK1, HM⟩ := hrel
    by_cases k1 : m < len
    · obtain ⟨y, hy⟩ : ∃ y, ys[m]? = some y := ⟨ys[m]'(by rw [HL.out]; exact k1), by simp⟩
      have hmem := List.mem_of_getElem? hy
      have ok := HO.out y hmem
      obtain ⟨b1, b2, b3, b4⟩ := (⟨ok.lu, ok.lc, ok.li, ok.ln⟩ : _ ∧ _ ∧ _ ∧ _)
      have HY : Hid (ys[m]? = some y) := hy
      have HMEM : Hid (y ∈ ys) := hmem
      clear hy hmem ok
      obtain ⟨nu, hnu⟩ : ∃ n, n = y.d.ups.length := ⟨_, rfl⟩
      obtain ⟨nc, hnc⟩ : ∃ n, n = y.d.consts.length := ⟨_, rfl⟩
      obtain ⟨ni, hni⟩ : ∃ n, n = y.d.ins.length := ⟨_, rfl⟩
      obtain ⟨nn, hnn⟩ : ∃ n, n = y.d.named.length := ⟨_, rfl⟩
      have HN : Hid (nu = y.d.ups.length ∧ nc = y.d.consts.length ∧ ni = y.d.ins.length ∧ nn = y.d.named.length) := ⟨hnu, hnc, hni, hnn⟩
      rw [← hnu] at b1
      rw [← hnc] at b2
      rw [← hni] at b3
      rw [← hnn] at b4
      clear hnu hnc hni hnn
      go_wp2_with fail
      refine (mtx_int _ _ (by omega) (by omega)).mono ?_
      rintro e w1 ⟨⟨s1, rfl⟩, hx⟩
      have HM1 : Hid (PF w gP len ys w1) := HM.out.later hx
      clear hx HM
      obtain ⟨y0, e0⟩ : ∃ q, w1.cell? ⟨gP, m * 9, none⟩ = some q := HM1.out.cell _ (by omega)
      obtain ⟨y1, e1⟩ : ∃ q, w1.cell? ⟨gP, m * 9 + 1, none⟩ = some q := HM1.out.cell _ (by omega)
      obtain ⟨y2, e2⟩ : ∃ q, w1.cell? ⟨gP, m * 9 + 2, none⟩ = some q := HM1.out.cell _ (by omega)
      obtain ⟨y3, e3⟩ : ∃ q, w1.cell? ⟨gP, m * 9 + 3, none⟩ = some q := HM1.out.cell _ (by omega)
      obtain ⟨y4, e4⟩ : ∃ q, w1.cell? ⟨gP, m * 9 + 4, none⟩ = some q := HM1.out.cell _ (by omega)
      have z1 := HM1.out.froz
      obtain ⟨e5, _, _, _⟩ := HM1.out.heads HY.out
      obtain ⟨g1, hg1, ha1, _⟩ := HM1.out.r.u y HMEM.out
      rw [ha1, ← HN.out.1] at e5
      go_wp2_with fail
      refine (markUpS_pf (HM1.out.five m _ _ _ _ _) HMEM.out g1 ha1 nu y.cu HN.out.1 b1 _ (by omega) (by omega)).mono ?_
      rintro e w2 ⟨rfl, hp⟩
      have HM2 : Hid (PF w gP len ys w2) := hp
      clear hp e0 e1 e2 e3 e4 z1 e5 HM1 hg1 ha1
      obtain ⟨_, e6, _, _⟩ := HM2.out.heads HY.out
      obtain ⟨g2, _, ha2, _⟩ := HM2.out.r.c y HMEM.out
      rw [ha2, ← HN.out.2.1] at e6
      go_wp2_with fail
      refine (markValueS_pf HM2.out HMEM.out g2 ha2 nc y.cc HN.out.2.1 b2 _ (by omega) (by omega)).mono ?_
      rintro e w3 ⟨rfl, hp⟩
      have HM3 : Hid (PF w gP len ys w3) := hp
      clear hp e6 HM2 ha2
      obtain ⟨_, _, e7, _⟩ := HM3.out.heads HY.out
      obtain ⟨g3, _, ha3, _⟩ := HM3.out.r.i y HMEM.out
      rw [ha3, ← HN.out.2.2.1] at e7
      go_wp2_with fail
      refine (markInsS_pf HM3.out HMEM.out g3 ha3 ni y.ci HN.out.2.2.1 b3 _ (by omega) (by omega)).mono ?_
      rintro e w4 ⟨rfl, hp⟩
      have HM4 : Hid (PF w gP len ys w4) := hp
      clear hp e7 HM3 ha3
      obtain ⟨_, _, _, e8⟩ := HM4.out.heads HY.out
      obtain ⟨g4, _, ha4, _⟩ := HM4.out.r.n y HMEM.out
      rw [ha4, ← HN.out.2.2.2] at e8
      go_wp2_with fail
      refine (markNamedS_pf HM4.out HMEM.out g4 ha4 nn y.cn HN.out.2.2.2 b4 _ (by omega) (by omega)).mono ?_
      rintro e w5 ⟨rfl, hp⟩
      have HM5 : Hid (PF w gP len ys w5) := hp
      clear hp e8 HM4 ha4
      go_wp2_with fail
      go_roundw
      case rel => exact ⟨m + 1, _, by omega, by go_num, rfl, by omega, by omega, HM5⟩
      case measure => simp [intOf]; omega
    · go_wp2_with fail
      go_ret
      exact ⟨⟨K, by omega, rfl⟩, HM.out.f⟩

set_option maxRecDepth 20000 in
set_option maxHeartbeats 4000000 in
theorem markCode_any (gP len cap : Nat) (ys : List FC) (w : World) (h : PR w gP len ys) (hl : ys.length = len) (hlen : len ≤ 1048576) (hok : ∀ y ∈ ys, y.d.ok) :
    Calls Tryz.prog 14 #[.agg #[.slice (some ⟨gP, 0, none⟩) len cap], .int .i64 1] w fun e w' => (∃ k : Int, 0 ≤ k ∧ e = .returned (.int .i64 k)) ∧ Fr gP w w' := by
  have hy := bw1 w (CO (.slice (some ⟨gP, 0, none⟩) len cap))
  have HM : Hid (Calls _ _ _ _ _) := markProtoS_any gP len cap ys _ (h.later hy) hl hlen hok
  clear h hl hok
  go_enter Tryz.func14, Tryz.ntmps14
  go_wp2_with fail
  refine Calls.mono (show Calls _ _ _ _ _ from HM.out) ?_
  rintro e w2 ⟨⟨k, hk, rfl⟩, hf⟩
  go_wp2_with fail
  go_ret
  exact ⟨⟨k, hk, rfl⟩, (Fr.of_below hy).trans hf⟩
theorem PR.of {w : World} {g len : Nat} {ys : List FC} (hr : RowG w g 9 50 FC.cells ys) (ho : ∀ y ∈ ys, y.own (g + 1) w) (hl : ys.length = len) : PR w g len ys := by
  refine ⟨?_, fun y hy => ?_, fun y hy => ?_, fun y hy => ?_, fun y hy => ?_⟩
  · obtain ⟨ar, h1, h2, h3⟩ := hr
    refine ⟨ar, h1, by rw [h2, hl], fun i y hy => ?_⟩
    have hi := (List.getElem?_eq_some_iff.1 hy).1
    exact ⟨h3 i y hi hy 5 _ rfl, h3 i y hi hy 6 _ rfl, h3 i y hi hy 7 _ rfl, h3 i y hi hy 8 _ rfl⟩
  · obtain ⟨g', hg, ha, ar, h1, h2, _⟩ := (ho y hy).u
    exact ⟨g', by omega, ha, ar, h1, h2⟩
  · obtain ⟨g', hg, ha, ar, h1, h2, _⟩ := (ho y hy).c
    exact ⟨g', by omega, ha, ar, h1, h2⟩
  · obtain ⟨g', hg, ha, ar, h1, h2, _⟩ := (ho y hy).i
    exact ⟨g', by omega, ha, ar, h1, h2⟩
  · obtain ⟨g', hg, ha, ar, h1, h2, _⟩ := (ho y hy).n
    exact ⟨g', by omega, ha, ar, h1, h2⟩
end Go.Proofs.YtfkeklndcjkgcaaGreatDoor
