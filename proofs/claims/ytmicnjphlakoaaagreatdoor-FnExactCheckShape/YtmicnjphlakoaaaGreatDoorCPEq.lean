/-
  OWN WORK. Codes: two that hold the same are found so.
-/
import Derived.Test.YtmicnjphlakoaaaGreatDoorCEq
import Derived.Test.YtmicnjphlakoaaaGreatDoorCSpU
namespace Go.Proofs.YtmicnjphlakoaaaGreatDoor
open Go.RowKit
attribute [local go_sem] run_store_float
set_option linter.unusedVariables false
set_option linter.unusedSimpArgs false

set_option maxHeartbeats 400000 in
theorem eqf_any (c p i : Int) (w : World) : Calls Tryz.prog 8 #[FV c p i, FV c p i] w fun e w' => e = .returned (.bool true) ∧ Below w.heap.size w w' := by
  go_enter Tryz.func8, Tryz.ntmps8
  go_wp2
  go_ret
  exact ⟨rfl, bw2 _ _ _⟩

set_option maxRecDepth 20000 in
set_option maxHeartbeats 4000000 in
theorem eqp_any (f f' : FC) (w : World) (hd : f'.d = f.d) (hl : f.lie w) (hl' : f'.lie w) (ok : f.d.ok) :
    Calls Tryz.prog 33 #[PV f, PV f'] w fun e w' => e = .returned (.bool true) ∧ Below w.heap.size w w' := by
  obtain ⟨d', au', cu', ac', cc', ai', ci', an', cn'⟩ := f'
  simp only at hd
  subst hd
  have HLI : Hid (f.lie w) := hl
  have HLJ : Hid (FC.lie w ⟨f.d, au', cu', ac', cc', ai', ci', an', cn'⟩) := hl'
  obtain ⟨on, lu, lc, lli, ln, _, _⟩ := ok
  clear hl hl' on
  go_enter Tryz.func33, Tryz.ntmps33
  go_wp2_with fail
  refine (equs_any _ _ _ _ _ f.d.ups _ rfl (HLI.out.later (bw2 _ _ _)).u (HLJ.out.later (bw2 _ _ _)).u lu).mono ?_
  rintro e w1 ⟨rfl, hx⟩
  have B0 : Hid (w1.heap[w.heap.size]? = some (PO f)) := blk_later hx (blk_old (blk_new _ _) _)
  have B1 : Hid (w1.heap[w.heap.size + 1]? = some (PO ⟨f.d, au', cu', ac', cc', ai', ci', an', cn'⟩)) := blk_later hx (blk_newn (by simp) _)
  have hB : Below w.heap.size w w1 := (bw2 _ _ _).trans (hx.mono (by simp; omega))
  clear hx
  have p6 : w1.cell? ⟨w.heap.size, 6, none⟩ = some (.slice f.ac f.d.consts.length f.cc) := by rw [blk_cell B0.out]; rfl
  have q6 : w1.cell? ⟨w.heap.size + 1, 6, none⟩ = some (.slice ac' f.d.consts.length cc') := by rw [blk_cell B1.out]; rfl
  go_wp2_with fail
  refine (eqvs_any _ _ _ _ _ f.d.consts _ rfl (HLI.out.later hB).c (HLJ.out.later hB).c lc).mono ?_
  rintro e w2 ⟨rfl, hx⟩
  replace B0 : Hid _ := blk_later hx B0.out
  replace B1 : Hid _ := blk_later hx B1.out
  replace hB := hB.trans (hx.mono hB.size)
  clear hx p6 q6
  have p7 : w2.cell? ⟨w.heap.size, 7, none⟩ = some (.slice f.ai f.d.ins.length f.ci) := by rw [blk_cell B0.out]; rfl
  have q7 : w2.cell? ⟨w.heap.size + 1, 7, none⟩ = some (.slice ai' f.d.ins.length ci') := by rw [blk_cell B1.out]; rfl
  go_wp2_with fail
  refine (eqis_any _ _ _ _ _ f.d.ins _ rfl (HLI.out.later hB).i (HLJ.out.later hB).i lli).mono ?_
  rintro e w3 ⟨rfl, hx⟩
  replace B0 : Hid _ := blk_later hx B0.out
  replace B1 : Hid _ := blk_later hx B1.out
  replace hB := hB.trans (hx.mono hB.size)
  clear hx p7 q7
  have p8 : w3.cell? ⟨w.heap.size, 8, none⟩ = some (.slice f.an f.d.named.length f.cn) := by rw [blk_cell B0.out]; rfl
  have q8 : w3.cell? ⟨w.heap.size + 1, 8, none⟩ = some (.slice an' f.d.named.length cn') := by rw [blk_cell B1.out]; rfl
  go_wp2_with fail
  refine (eqns_any _ _ _ _ _ f.d.named _ rfl (HLI.out.later hB).n (HLJ.out.later hB).n ln).mono ?_
  rintro e w4 ⟨rfl, hx⟩
  replace B0 : Hid _ := blk_later hx B0.out
  replace B1 : Hid _ := blk_later hx B1.out
  replace hB := hB.trans (hx.mono hB.size)
  clear hx p8 q8
  go_wp2_with fail
  go_ret
  exact ⟨rfl, hB⟩

set_option maxRecDepth 20000 in
set_option maxHeartbeats 4000000 in
theorem eqps_any (a a' : Option Addr) (cap cap' len : Nat) (xs ys : List FC) (w : World) (hl : xs.length = len) (H0 : CodeAt w a xs) (H1 : CodeAt w a' ys) (hd : ys.map FC.d = xs.map FC.d) :
    Calls Tryz.prog 17 #[.slice a len cap, .slice a' len cap'] w fun e w' => e = .returned (.bool true) ∧ Below w.heap.size w w' := by
  have hlen : len ≤ 1048576 := by rw [← hl]; exact H0.len
  have HX : Hid (CodeAt w a xs) := H0
  have HY : Hid (CodeAt w a' ys) := H1
  have HL : Hid (xs.length = len) := hl
  have HD : Hid (ys.map FC.d = xs.map FC.d) := hd
  clear H0 H1 hl hd
  go_enter Tryz.func17, Tryz.ntmps17
  go_wp2_with fail
  go_loopw [5] (fun i wr => ∃ m : Nat, m ≤ len ∧ i = .int .i64 m ∧ Below w.heap.size w wr) (fun i _ => len - (intOf i).toNat)
  case atStart => exact ⟨0, Nat.zero_le _, rfl, Below.refl _ _⟩
  case round =>
    obtain ⟨m, hm, rfl, hB⟩ := hrel
    by_cases k1 : m < len
    · obtain ⟨f, hf⟩ : ∃ f, xs[m]? = some f := ⟨xs[m]'(by rw [HL.out]; exact k1), by simp⟩
      have hyl : m < ys.length := by
        have h := congrArg List.length HD.out
        simp only [List.length_map] at h
        rw [h, HL.out]; exact k1
      obtain ⟨g, hg⟩ : ∃ g, ys[m]? = some g := ⟨ys[m]'hyl, by simp⟩
      have HE : Hid (g.d = f.d) := by
        have h := congrArg (fun l => l[m]?) HD.out
        simp only [List.getElem?_map, hf, hg, Option.map_some, Option.some.injEq] at h
        exact h
      obtain ⟨b, off, rfl, _, hc⟩ := HX.out.nine hf
      obtain ⟨b', off', rfl, _, hc'⟩ := HY.out.nine hg
      have HFL : Hid (f.lie w) := HX.out.lie f (List.mem_of_getElem? hf)
      have HGL : Hid (g.lie w) := HY.out.lie g (List.mem_of_getElem? hg)
      have HFO : Hid f.d.ok := HX.out.ok f (List.mem_of_getElem? hf)
      obtain ⟨c0, c1, c2, c3, c4, c5, c6, c7, c8⟩ := hc.later hB
      obtain ⟨d0, d1, d2, d3, d4, d5, d6, d7, d8⟩ := hc'.later hB
      clear hf hg hc hc' hyl
      go_wp2_with fail
      go_region_with (go_at_call 33; refine (eqp_any f g _ HE.out (HFL.out.later (hB.trans ((Below.refl _ _).drew))) (HGL.out.later (hB.trans ((Below.refl _ _).drew))) HFO.out).mono ?_; rintro e w1 ⟨rfl, hx⟩)
      all_goals
        replace hx := und1 hx
        replace hB := hB.trans (hx.mono hB.size)
        clear hx c0 c1 c2 c3 c4 c5 c6 c7 c8 d0 d1 d2 d3 d4 d5 d6 d7 d8
        go_wp2_with fail
        go_roundw
        case rel => exact ⟨m + 1, by omega, by go_num, hB⟩
        case measure => simp [intOf]; omega
    · go_wp2_with fail
      go_ret
      exact ⟨rfl, hB⟩

set_option maxHeartbeats 1000000 in
theorem eqc_any (a a' : Option Addr) (cap cap' len : Nat) (xs ys : List FC) (w : World) (hl : xs.length = len) (H0 : CodeAt w a xs) (H1 : CodeAt w a' ys) (hd : ys.map FC.d = xs.map FC.d) :
    Calls Tryz.prog 9 #[.agg #[.slice a len cap], .agg #[.slice a' len cap']] w fun e w' => e = .returned (.bool true) ∧ Below w.heap.size w w' := by
  have HX : Hid (CodeAt w a xs) := H0
  have HY : Hid (CodeAt w a' ys) := H1
  clear H0 H1
  go_enter Tryz.func9, Tryz.ntmps9
  go_wp2_with fail
  refine (eqps_any a a' cap cap' len xs ys _ hl (HX.out.later (bw2 _ _ _)) (HY.out.later (bw2 _ _ _)) hd).mono ?_
  rintro e w1 ⟨rfl, hx⟩
  have hb := (bw2 _ _ _).trans (hx.mono (by simp; omega))
  clear hx
  go_wp2_with fail
  go_ret
  exact ⟨rfl, hb⟩
end Go.Proofs.YtmicnjphlakoaaaGreatDoor
