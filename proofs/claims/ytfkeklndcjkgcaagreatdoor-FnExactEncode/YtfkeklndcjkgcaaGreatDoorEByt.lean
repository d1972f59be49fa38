/-
  OWN WORK. The laws' rows of bytes: held against each other, marked, read again; the copy of a code, its own blocks.
-/
import Derived.Test.YtfkeklndcjkgcaaGreatDoorLApp
import Derived.Test.YtfkeklndcjkgcaaGreatDoorCPTo
namespace Go.Proofs.YtfkeklndcjkgcaaGreatDoor
open Go.RowKit
attribute [local go_sem] run_store_float
set_option linter.unusedVariables false
set_option linter.unusedSimpArgs false

def byteC (u : UInt8) : List Value := [.int .u8 (u.toNat : Int)]
/-- A row of bytes that can be read. -/
def Rd (w : World) (sv : Value) (l : List UInt8) : Prop := ∃ a cap, sv = .slice a l.length cap ∧ SlA w 1 byteC a l
theorem Rd.later {w w' : World} {sv : Value} {l : List UInt8} (h : Rd w sv l) (hb : Below w.heap.size w w') : Rd w' sv l := by
  obtain ⟨a, cap, h1, h2⟩ := h
  exact ⟨a, cap, h1, h2.later hb⟩
theorem BRow.rd {w : World} {B : Nat} {sv : Value} {l : List UInt8} (h : BRow w B sv l) : Rd w sv l := by
  rcases h with ⟨hl, ⟨rfl, h0⟩ | ⟨g, cap, cur, rfl, e2, e3, e4, e5⟩⟩
  · have : l = [] := List.length_eq_zero_iff.1 h0
    subst this
    exact ⟨none, 0, rfl, SlA.nil _ _ _ _⟩
  · refine ⟨_, cap, rfl, fun i x hi => ⟨g, 0, rfl, blk_lt e3, fun j v hv => ?_⟩⟩
    have hil := (List.getElem?_eq_some_iff.1 hi).1
    obtain rfl : j = 0 := by have := (List.getElem?_eq_some_iff.1 hv).1; simp [byteC] at this; exact this
    have hv' : Value.int .u8 (x.toNat : Int) = v := by simpa [byteC] using hv
    have h := congrArg (fun a => a[i]?) e5.2.2
    simp only [Nat.mul_one, List.getElem?_take, hil, if_true, Lib.byteCells, List.getElem?_map, hi, Option.map_some, Array.getElem?_toList] at h
    rw [blk_cell e3, ← hv']
    simpa using h

set_option maxRecDepth 20000 in
set_option maxHeartbeats 4000000 in
theorem eqb_any (s1 s2 : Value) (l : List UInt8) (w : World) (h1 : Rd w s1 l) (h2 : Rd w s2 l) (hl : l.length ≤ 2000000) :
    Calls Tryz.prog 13 #[s1, s2] w fun e w' => e = .returned (.bool true) ∧ Below w.heap.size w w' := by
  obtain ⟨a1, c1, rfl, k1⟩ := h1
  obtain ⟨a2, c2, rfl, k2⟩ := h2
  have H1 : Hid (SlA w 1 byteC a1 l) := k1
  have H2 : Hid (SlA w 1 byteC a2 l) := k2
  obtain ⟨n, hn⟩ : ∃ n, n = l.length := ⟨_, rfl⟩
  have HN : Hid (l.length = n) := hn.symm
  rw [← hn] at hl ⊢
  clear k1 k2 hn
  go_enter Tryz.func13, Tryz.ntmps13
  go_wp2_with fail
  go_loopw [5] (fun ii wr => ∃ (m : Nat), m ≤ n ∧ ii = .int .i64 m ∧ Hid (Below w.heap.size w wr)) (fun ii _ => n - (intOf ii).toNat)
  case atStart => exact ⟨0, Nat.zero_le _, rfl, Below.refl _ _⟩
  case round =>
    obtain ⟨m, hm, rfl, HB⟩ := hrel
    by_cases k1 : m < n
    · obtain ⟨u, hu⟩ : ∃ u, l[m]? = some u := ⟨l[m]'(by rw [HN.out]; exact k1), by simp⟩
      obtain ⟨b1, o1, rfl, _, hc1⟩ := H1.out m u hu
      obtain ⟨b2, o2, rfl, _, hc2⟩ := H2.out m u hu
      have e1 : wr.cell? ⟨b1, o1 + m, none⟩ = some (.int .u8 (u.toNat : Int)) := by have h := cell_later HB.out (hc1 0 _ rfl); simpa using h
      have e2 : wr.cell? ⟨b2, o2 + m, none⟩ = some (.int .u8 (u.toNat : Int)) := by have h := cell_later HB.out (hc2 0 _ rfl); simpa using h
      clear hc1 hc2 hu
      go_wp2_with fail
      go_region
      all_goals
        have HB2 : Hid (Below w.heap.size w wr.drew) := HB.out.drew
        go_wp2_with fail
        go_roundw
        case rel => exact ⟨m + 1, by omega, by go_num, HB2⟩
        case measure => simp [intOf]; omega
    · go_wp2_with fail
      go_ret
      exact ⟨rfl, HB.out⟩

def mkB (n : Nat) : List UInt8 := (List.range n).map fun i => UInt8.ofNat (i + 1)

set_option maxRecDepth 20000 in
set_option maxHeartbeats 4000000 in
theorem held_any (s1 : Value) (n : Nat) (w : World) (h1 : Rd w s1 (mkB n)) (hl : n ≤ 2000000) :
    Calls Tryz.prog 16 #[s1, .int .i64 1] w fun e w' => e = .returned (.int .i64 ((n + 1 : Nat) : Int)) ∧ Below w.heap.size w w' := by
  obtain ⟨a1, c1, rfl, k1⟩ := h1
  have H1 : Hid (SlA w 1 byteC a1 (mkB n)) := k1
  rw [show (mkB n).length = n by simp [mkB]]
  clear k1
  go_enter Tryz.func16, Tryz.ntmps16
  go_wp2_with fail
  go_loopw [1, 5] (fun kk ii wr => ∃ (m : Nat), m ≤ n ∧ ii = .int .i64 m ∧ kk = .int .i64 ((m + 1 : Nat) : Int) ∧ Hid (Below w.heap.size w wr)) (fun _ ii _ => n - (intOf ii).toNat)
  case atStart => exact ⟨0, Nat.zero_le _, rfl, rfl, Below.refl _ _⟩
  case round =>
    obtain ⟨m, hm, rfl, rfl, HB⟩ := hrel
    by_cases k1 : m < n
    · have hu : (mkB n)[m]? = some (UInt8.ofNat (m + 1)) := by simp [mkB, k1]
      obtain ⟨b1, o1, rfl, _, hc1⟩ := H1.out m _ hu
      have e1 : wr.cell? ⟨b1, o1 + m, none⟩ = some (.int .u8 (((m : Int) + 1) % 256)) := by
        have h := cell_later HB.out (hc1 0 _ rfl)
        have hz : ((UInt8.ofNat (m + 1)).toNat : Int) = ((m : Int) + 1) % 256 := by rw [UInt8.toNat_ofNat']; omega
        rw [hz] at h
        simpa using h
      clear hc1 hu
      go_wp2_with fail
      go_roundw
      case rel => exact ⟨m + 1, by omega, by go_num, by congr 1, HB⟩
      case measure => simp [intOf]; omega
    · have hml : m = n := by omega
      go_wp2_with fail
      go_ret
      exact ⟨by rw [← hml]; rfl, HB.out⟩

theorem brow_put {w : World} {B g n cap m : Nat} {l : List UInt8} {c : UInt8} {z : Int} (h : BRow w B (.slice (some ⟨g, 0, none⟩) n cap) l) (hn : n = l.length) (hm : m < n) (hz : z = (c.toNat : Int)) : BRow (w.setCell ⟨g, m, none⟩ (.int .u8 z)) B (.slice (some ⟨g, 0, none⟩) n cap) (l.set m c) := by
  subst hz
  obtain ⟨h1, h2⟩ := h
  rcases h2 with ⟨hs, _⟩ | ⟨g', cap', cur, e1, e2, e3, e4, e5, e6, e7⟩
  · cases hs
  · simp only [Value.slice.injEq, Option.some.injEq, Addr.mk.injEq, and_true] at e1
    obtain ⟨rfl, e11, rfl⟩ := e1
    refine ⟨by rw [Lib.byteCells_length, Nat.mul_one], .inr ⟨g, cap, _, by rw [List.length_set, ← e11], e2, blk_set e3 m _, by rw [List.length_set]; exact e4, e5, by simpa using e6, ?_⟩⟩
    rw [List.length_set]
    rw [Array.toList_setIfInBounds, List.take_set, e7]
    simp [Lib.byteCells, List.map_set]

set_option maxRecDepth 20000 in
set_option maxHeartbeats 4000000 in
theorem markb_any (B : Nat) (s1 : Value) (l : List UInt8) (w : World) (h1 : BRow w B s1 l) (hl : l.length ≤ 2000000) :
    Calls Tryz.prog 15 #[s1, .int .i64 1] w fun e w' => e = .returned (.int .i64 ((l.length + 1 : Nat) : Int)) ∧ BRow w' B s1 (mkB l.length) ∧ Below B w w' := by
  obtain ⟨a1, c1, rfl⟩ := h1.val
  have H1 : Hid (BRow w B (.slice a1 l.length c1) l) := h1
  obtain ⟨n, hn⟩ : ∃ n, n = l.length := ⟨_, rfl⟩
  have HN : Hid (l.length = n) := hn.symm
  rw [← hn] at hl H1 ⊢
  clear hn h1
  go_enter Tryz.func15, Tryz.ntmps15
  go_wp2_with fail
  go_loopw [1, 5] (fun kk ii wr => ∃ (m : Nat) (l1 : List UInt8), m ≤ n ∧ ii = .int .i64 m ∧ kk = .int .i64 ((m + 1 : Nat) : Int) ∧ Hid (l1.length = n) ∧ Hid (∀ i, i < m → l1[i]? = some (UInt8.ofNat (i + 1))) ∧ Hid (BRow wr B (.slice a1 n c1) l1) ∧ Hid (Below B w wr)) (fun _ ii _ => n - (intOf ii).toNat)
  case atStart => exact ⟨0, l, Nat.zero_le _, rfl, rfl, HN, fun i hi => absurd hi (Nat.not_lt_zero _), H1, Below.refl _ _⟩
  case round =>
    clear H1
    obtain ⟨m, l1, hm, rfl, rfl, HL1, HI, HR, HB⟩ := hrel
    by_cases k1 : m < n
    · obtain ⟨g, rfl⟩ : ∃ g, a1 = some ⟨g, 0, none⟩ := by
        rcases HR.out.2 with ⟨hs, h0⟩ | ⟨g, cap, cur, hs, _⟩
        · rw [HL1.out] at h0; omega
        · simp only [Value.slice.injEq] at hs
          exact ⟨g, hs.1⟩
      have HR2 := fun z hz => brow_put (c := UInt8.ofNat (m + 1)) (z := z) HR.out HL1.out.symm k1 hz
      have hge : B ≤ g := by
        rcases HR.out.2 with ⟨hs, h0⟩ | ⟨g', cap, cur, hs, h1, _⟩
        · cases hs
        · simp only [Value.slice.injEq, Option.some.injEq, Addr.mk.injEq, and_true] at hs
          rw [hs.1]; exact h1
      obtain ⟨y, e1⟩ : ∃ y, wr.cell? ⟨g, m, none⟩ = some y := by
        obtain ⟨a, c, hs, hsl⟩ := HR.out.rd
        simp only [Value.slice.injEq] at hs
        obtain ⟨b, off, ha, _, hc⟩ := hsl m _ (List.getElem?_eq_getElem (show m < l1.length by rw [HL1.out]; exact k1))
        rw [← hs.1] at ha
        cases ha
        exact ⟨_, by have h := hc 0 _ rfl; simpa using h⟩
      have z : wr.frozen? ⟨g, m, none⟩ = false := by
        rcases HR.out.2 with ⟨hs, h0⟩ | ⟨g', cap, cur, hs, h1, h2, _⟩
        · cases hs
        · simp only [Value.slice.injEq, Option.some.injEq, Addr.mk.injEq, and_true] at hs
          rw [hs.1]; exact blk_frozen h2 m
      have HRN : Hid (BRow (wr.setCell ⟨g, m, none⟩ (.int .u8 (((m : Int) + 1) % 256))) B (.slice (some ⟨g, 0, none⟩) n c1) (l1.set m (UInt8.ofNat (m + 1)))) := HR2 _ (by rw [UInt8.toNat_ofNat']; omega)
      have HBN : Hid (Below B w (wr.setCell ⟨g, m, none⟩ (.int .u8 (((m : Int) + 1) % 256)))) := ⟨HB.out.os, HB.out.tape, HB.out.output, by simpa using HB.out.size, fun j hj => by rw [Below.heap_setCell _ _ _ _ (by show j ≠ g; omega)]; exact HB.out.block j hj⟩
      have HIN : Hid (∀ i, i < m + 1 → (l1.set m (UInt8.ofNat (m + 1)))[i]? = some (UInt8.ofNat (i + 1))) := by
        intro i hi
        rw [List.getElem?_set]
        by_cases he : m = i
        · subst he
          rw [if_pos rfl, if_pos (by rw [HL1.out]; exact k1)]
        · rw [if_neg he]; exact HI.out i (by omega)
      have HLN : Hid ((l1.set m (UInt8.ofNat (m + 1))).length = n) := by show _ = _; rw [List.length_set]; exact HL1.out
      clear HR2 HR HB HI HL1
      go_wp2_with fail
      go_roundw
      case rel => exact ⟨m + 1, _, by omega, by go_num, by congr 1, HLN, HIN, HRN, HBN⟩
      case measure => simp [intOf]; omega
    · have hml : m = n := by omega
      have HE : Hid (l1 = mkB n) := by
        show _ = _
        apply List.ext_getElem?
        intro i
        by_cases hi : i < n
        · rw [HI.out i (by omega)]; simp [mkB, hi]
        · rw [List.getElem?_eq_none (by rw [HL1.out]; omega), List.getElem?_eq_none (by simp [mkB]; omega)]
      go_wp2_with fail
      go_ret
      exact ⟨by rw [← hml]; rfl, by rw [← HE.out]; exact HR.out, HB.out⟩

set_option maxRecDepth 20000 in
set_option maxHeartbeats 4000000 in
/-- The copy of a code, its own blocks. -/
theorem toc_own (a : Option Addr) (len cap : Nat) (xs : List FC) (w : World) (H0 : CodeAt w a xs) (hl : xs.length = len) :
    Calls Tryz.prog 8 #[.agg #[.slice a len cap]] w fun e w' => (∃ g ys, e = .returned (.agg #[.slice (some ⟨g, 0, none⟩) len len]) ∧ ys.map FC.d = xs.map FC.d ∧ CodeAt w' (some ⟨g, 0, none⟩) ys ∧ w.heap.size ≤ g ∧ RowG w' g 9 50 FC.cells ys ∧ ∀ y ∈ ys, y.own (g + 1) w') ∧ Below w.heap.size w w' := by
  have H : Hid (CodeAt w a xs) := H0
  have hlen : len ≤ 1048576 := by rw [← hl]; exact H0.len
  have HL : Hid (xs.length = len) := hl
  clear H0 hl
  have hy := bw3 w (.cells #[.slice a len cap] 24) (CO (.slice none 0 0)) (CO (.slice none 0 0))
  have hz1 : (((w.alloc (.cells #[.slice a len cap] 24)).alloc (CO (.slice none 0 0))).alloc (CO (.slice none 0 0))).heap[w.heap.size + 1]? = some (CO (.slice none 0 0)) := blk_old (blk_newn (by simp) _) _
  have hz2 : (((w.alloc (.cells #[.slice a len cap] 24)).alloc (CO (.slice none 0 0))).alloc (CO (.slice none 0 0))).heap[w.heap.size + 1 + 1]? = some (CO (.slice none 0 0)) := blk_newn (by simp) _
  obtain ⟨g, hg⟩ : ∃ g, g = (((w.alloc (.cells #[.slice a len cap] 24)).alloc (CO (.slice none 0 0))).alloc (CO (.slice none 0 0))).heap.size := ⟨_, rfl⟩
  have hg3 : w.heap.size + 3 = g := by rw [hg]; simp
  go_enter Tryz.func8, Tryz.ntmps8
  go_wp2_with fail
  refine (tops_any a len cap xs _ HL.out (H.out.row.later hy) (fun x hx => (H.out.lie x hx).later hy) H.out.ok hlen).mono ?_
  rw [← hg]
  rintro e w1 ⟨rfl, hx, ys, hd, hR, hO⟩
  rw [hg] at hx
  have B1 := blk_later hx hz1
  have B2 := blk_later hx hz2
  have hB := hy.trans (hx.mono hy.size)
  have HD : Hid (ys.map FC.d = xs.map FC.d) := hd
  have HR : Hid (RowG w1 g 9 50 FC.cells ys) := hR
  have HO : Hid (∀ y ∈ ys, y.own (g + 1) w1) := hO
  have HG : Hid (w.heap.size + 3 = g) := hg3
  have s0 : w1.cell? ⟨w.heap.size + 1, 0, none⟩ = some (.slice none 0 0) := by rw [blk_cell B1]; rfl
  have o0 : w1.cell? ⟨w.heap.size + 1 + 1, 0, none⟩ = some (.slice none 0 0) := by rw [blk_cell B2]; rfl
  have z1 := blk_frozen B1
  have z2 := blk_frozen B2
  clear hx hy hz1 hz2 B1 B2 hg hg3 hd hR hO
  go_wp2_with fail
  refine bodyPost_ret (v := .agg #[.slice (some ⟨g, 0, none⟩) len len]) (by simp [results, Tryz.results8, go_sem, s0]) rfl ⟨⟨g, ys, rfl, HD.out, ?_, ?_, ?_, ?_⟩, ?_⟩
  · have hgg := HG.out
    refine code_of HD.out (RowG.set (RowG.set HR.out (by omega) _ _) (by omega) _ _) (fun y hy => ((HO.out y hy).set (q := w.heap.size + 1 + 1) (by omega) _ _).set (q := w.heap.size + 1) (by omega) _ _) H.out.ok (by rw [HL.out]; exact hlen) H.out.all
  · have hgg := HG.out; omega
  · have hgg := HG.out
    exact RowG.set (RowG.set HR.out (by omega) _ _) (by omega) _ _
  · have hgg := HG.out
    exact fun y hy => ((HO.out y hy).set (q := w.heap.size + 1 + 1) (by omega) _ _).set (q := w.heap.size + 1) (by omega) _ _
  · exact (hB.setCell (p := ⟨w.heap.size + 1 + 1, 0, none⟩) (by simp; omega) _).setCell (p := ⟨w.heap.size + 1, 0, none⟩) (by simp) _
end Go.Proofs.YtfkeklndcjkgcaaGreatDoor
