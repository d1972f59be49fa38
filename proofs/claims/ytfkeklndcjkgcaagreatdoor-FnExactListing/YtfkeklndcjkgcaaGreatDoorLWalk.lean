/-
  OWN WORK. The law FnExactListing: its walk.
-/
import Derived.Test.YtfkeklndcjkgcaaGreatDoorCOpen
import Derived.Test.YtfkeklndcjkgcaaGreatDoorCPEq
import Derived.Test.YtfkeklndcjkgcaaGreatDoorLSpD
import Derived.Test.YtfkeklndcjkgcaaGreatDoorLImB
namespace Go.Proofs.YtfkeklndcjkgcaaGreatDoor.lawListing
open Go.ChangeShapes Go.WideShapes Go.ChangeAt Go.RowKit
attribute [local go_sem] run_store_float
set_option linter.unusedVariables false
set_option linter.unusedSimpArgs false

theorem szL_mem : ∀ {xs : List FC} {x : FC}, x ∈ xs → szF x.d ≤ szL xs
  | y :: ys, x, h => by
    have hc : szL (y :: ys) = szF y.d + szL ys := by simp [szL]
    rcases List.mem_cons.1 h with rfl | h
    · omega
    · have := szL_mem h; omega
theorem szL_ins : ∀ xs : List FC, (xs.map fun x => x.d.ins.length).sum ≤ szL xs
  | [] => by simp [szL]
  | y :: ys => by
    have hc : szL (y :: ys) = szF y.d + szL ys := by simp [szL]
    have := szL_ins ys
    rw [List.map_cons, List.sum_cons, hc]
    have : y.d.ins.length ≤ szF y.d := by unfold szF; omega
    omega
theorem ok_of {f : FD} (h : f.raw) (hs : szF f ≤ 1048576) : f.ok := by
  unfold szF at hs
  exact ⟨h.name, by omega, by omega, by omega, by omega, h.c, h.n⟩
theorem code_raw {w : World} {a : Option Addr} {xs : List FC} (hp : SlA w 9 FC.cells a xs) (hx : ∀ x ∈ xs, x.lie w ∧ x.d.raw) (hs : xs.length + szL xs ≤ 1048576) : CodeAt w a xs :=
  ⟨hp, fun x h => (hx x h).1, fun x h => ok_of (hx x h).2 (by have := szL_mem h; omega), by omega, by have := szL_ins xs; omega⟩

set_option maxRecDepth 20000 in
set_option maxHeartbeats 8000000 in
theorem walk (a : Option Addr) (cap : Nat) (xs : List FC) (w : World) (hp : SlA w 9 FC.cells a xs) (hxs : ∀ x ∈ xs, x.lie w ∧ x.d.raw) (hlm : xs.length ≤ maxLen) (hlay : LayAt w) (hten : TenAt w) (hnam : NamesAt w) :
    Calls Tryz.prog 3 #[.agg #[.slice a xs.length cap]] w fun e w' => e = .returned (.bool true) ∧ Below w.heap.size w w' := by
  have HP : Hid (SlA w 9 FC.cells a xs) := hp
  have HX : Hid (∀ x ∈ xs, x.lie w ∧ x.d.raw) := hxs
  have HLY : Hid (LayAt w) := hlay
  have HTN : Hid (TenAt w) := hten
  have HNM : Hid (NamesAt w) := hnam
  clear hp hxs hlay hten hnam
  go_enter Tryz.func3, Tryz.ntmps3
  go_wp2_with fail
  refine (szc_any a xs.length cap xs 1048576 _ rfl (HP.out.later (bw1 _ _)) (fun x hx => (HX.out x hx).1.later (bw1 _ _)) (fun x hx => (HX.out x hx).2) hlm (by omega) (by omega)).mono ?_
  rintro e w1 ⟨⟨r, rfl, hr⟩, hx⟩
  have B0 : Hid (w1.heap[w.heap.size]? = some (.cells #[.slice a xs.length cap] 24)) := blk_later hx (blk_new _ _)
  have hb : Below w.heap.size w w1 := (bw1 _ _).trans (hx.mono (by simp))
  clear hx
  rcases hr with rfl | ⟨hr0, hr1⟩
  · go_wp2_with fail
    go_ret
    exact ⟨rfl, hb⟩
  have H : Hid (CodeAt w a xs) := code_raw HP.out HX.out (by omega)
  clear hr1
  obtain ⟨s, hs⟩ : ∃ s, s = sOf (listV (xs.map FC.d)) := ⟨_, rfl⟩
  have HT : Hid (s = sOf (listV (xs.map FC.d))) := hs
  obtain ⟨len, hlen⟩ : ∃ len, len = xs.length := ⟨_, rfl⟩
  have HL : Hid (xs.length = len) := hlen.symm
  rw [← hlen] at B0 ⊢
  clear hs hlm hlen
  have a0 : w1.cell? ⟨w.heap.size, 0, none⟩ = some (.slice a len cap) := by rw [blk_cell B0.out]; rfl
  go_wp2_with fail
  refine (toc_any a len cap xs _ (H.out.later hb) HL.out).mono ?_
  rintro e w2 ⟨⟨g1, ys, rfl, hd1, hC1⟩, hx⟩
  have HC1 : Hid (CodeAt w2 (some ⟨g1, 0, none⟩) ys) := hC1
  have HD1 : Hid (ys.map FC.d = xs.map FC.d) := hd1
  have HYL : Hid (ys.length = len) := by have h := congrArg List.length hd1; simp only [List.length_map] at h; rw [HL.out] at h; exact h
  replace hb := hb.trans (hx.mono hb.size)
  replace B0 : Hid _ := blk_later hx B0.out
  clear hx hd1 hC1 a0
  go_wp2_with fail
  refine (slist_any (some ⟨g1, 0, none⟩) len len ys _ HC1.out HYL.out).mono ?_
  rw [HD1.out, ← HT.out]
  rintro e w3 ⟨rfl, hx⟩
  replace hb := hb.trans (hx.mono hb.size)
  replace B0 : Hid _ := blk_later hx B0.out
  clear hx HC1 HD1 HYL
  have a0 : w3.cell? ⟨w.heap.size, 0, none⟩ = some (.slice a len cap) := by rw [blk_cell B0.out]; rfl
  go_wp2_with fail
  refine (toc_any a len cap xs _ (H.out.later hb) HL.out).mono ?_
  rintro e w4 ⟨⟨g2, zs, rfl, hd2, hC2⟩, hx⟩
  have HC2 : Hid (CodeAt w4 (some ⟨g2, 0, none⟩) zs) := hC2
  have HD2 : Hid (zs.map FC.d = xs.map FC.d) := hd2
  have HZL : Hid (zs.length = len) := by have h := congrArg List.length hd2; simp only [List.length_map] at h; rw [HL.out] at h; exact h
  replace hb := hb.trans (hx.mono hb.size)
  replace B0 : Hid _ := blk_later hx B0.out
  clear hx hd2 hC2 a0
  have hy := bw1 w4 (CO (.slice (some ⟨g2, 0, none⟩) len len))
  have hb4 := hb.trans (hy.mono hb.size)
  go_wp2_with fail
  refine (ilist_any (some ⟨g2, 0, none⟩) len len zs _ (HC2.out.later hy) HZL.out (HLY.out.later hb4) (HTN.out.later hb4) (HNM.out.later hb4)).mono ?_
  rw [HD2.out, ← HT.out]
  rintro e w5 ⟨rfl, hx⟩
  obtain ⟨gx, hgx⟩ : ∃ gx, gx = w4.heap.size := ⟨_, rfl⟩
  have BX : Hid (w5.heap[gx]? = some (CO (.slice (some ⟨g2, 0, none⟩) len len))) := blk_later hx (blk_newn hgx.symm _)
  rw [← hgx]
  replace B0 : Hid _ := blk_later hx (blk_later hy B0.out)
  replace HC2 : Hid (CodeAt w5 (some ⟨g2, 0, none⟩) zs) := (HC2.out.later hy).later hx
  replace hb := hb4.trans (hx.mono hb4.size)
  clear hx hy hb4 hgx
  have x0 : w5.cell? ⟨gx, 0, none⟩ = some (.slice (some ⟨g2, 0, none⟩) len len) := by rw [blk_cell BX.out]; rfl
  have a0 : w5.cell? ⟨w.heap.size, 0, none⟩ = some (.slice a len cap) := by rw [blk_cell B0.out]; rfl
  clear BX B0
  go_wp2_with fail
  go_region_with (first | (go_at_call 8; refine (toc_any a len cap xs _ (H.out.later (hb.trans ((Below.refl _ _).drew))) HL.out).mono ?_; rintro e w7 ⟨⟨g3, us, rfl, hd3, hC3⟩, hx⟩; replace hx := und1 hx; have HC3 : Hid (CodeAt w7 (some ⟨g3, 0, none⟩) us) := hC3; have HD3 : Hid (us.map FC.d = zs.map FC.d) := hd3.trans HD2.out.symm; replace HC2 : Hid (CodeAt w7 (some ⟨g2, 0, none⟩) zs) := HC2.out.later hx; replace x0 := cell_later hx x0; replace hb := hb.trans (hx.mono hb.size); clear hx hC3 hd3) | (go_at_call 10; refine (eqc_any (some ⟨g2, 0, none⟩) (some ⟨g3, 0, none⟩) len len len zs us _ HZL.out HC2.out HC3.out HD3.out).mono ?_; rintro e w8 ⟨rfl, hx⟩; replace hb := hb.trans (hx.mono hb.size); clear hx))
  all_goals
    go_wp2_with fail
    go_ret
    exact ⟨rfl, hb⟩
end Go.Proofs.YtfkeklndcjkgcaaGreatDoor.lawListing
