/-
  OWN WORK. The law FnExactCheckShape: its walk.
-/
import Derived.Test.YtmicnjphlakoaaaGreatDoorCOpen
import Derived.Test.YtmicnjphlakoaaaGreatDoorCPEq
import Derived.Test.YtmicnjphlakoaaaGreatDoorCImS
namespace Go.Proofs.YtmicnjphlakoaaaGreatDoor.lawCheckShape
open Go.ChangeShapes Go.WideShapes Go.ChangeAt Go.RowKit
attribute [local go_sem] run_store_float
set_option linter.unusedVariables false
set_option linter.unusedSimpArgs false

theorem szL_mem : ∀ {xs : List FC} {x : FC}, x ∈ xs → szF x.d ≤ szL xs
  | y :: ys, x, h => by
    have hc : szL (y :: ys) = szF y.d + szL ys := by simp [szL]
    rcases List.mem_cons.1 h with rfl | h
    · omega
    · have := szL_mem h; omega
theorem szL_ins : ∀ xs : List FC, (xs.map fun x => x.d.ins.length).sum ≤ szL xs
  | [] => by simp [szL]
  | y :: ys => by
    have hc : szL (y :: ys) = szF y.d + szL ys := by simp [szL]
    have := szL_ins ys
    rw [List.map_cons, List.sum_cons, hc]
    have : y.d.ins.length ≤ szF y.d := by unfold szF; omega
    omega
theorem ok_of {f : FD} (h : f.raw) (hs : szF f ≤ 1048576) : f.ok := by
  unfold szF at hs
  exact ⟨h.name, by omega, by omega, by omega, by omega, h.c, h.n⟩
theorem code_raw {w : World} {a : Option Addr} {xs : List FC} (hp : SlA w 9 FC.cells a xs) (hx : ∀ x ∈ xs, x.lie w ∧ x.d.raw) (hs : xs.length + szL xs ≤ 1048576) : CodeAt w a xs :=
  ⟨hp, fun x h => (hx x h).1, fun x h => ok_of (hx x h).2 (by have := szL_mem h; omega), by omega, by have := szL_ins xs; omega⟩

set_option maxRecDepth 20000 in
set_option maxHeartbeats 8000000 in
theorem walk (a : Option Addr) (cap : Nat) (xs : List FC) (w : World) (hp : SlA w 9 FC.cells a xs) (hxs : ∀ x ∈ xs, x.lie w ∧ x.d.raw) (hlm : xs.length ≤ maxLen) (hlay : LayAt w) (herr : ErrAt w) :
    Calls Tryz.prog 3 #[.agg #[.slice a xs.length cap]] w fun e w' => e = .returned (.bool true) ∧ Below w.heap.size w w' := by
  have HP : Hid (SlA w 9 FC.cells a xs) := hp
  have HX : Hid (∀ x ∈ xs, x.lie w ∧ x.d.raw) := hxs
  have HLY : Hid (LayAt w) := hlay
  have HER : Hid (ErrAt w) := herr
  clear hp hxs hlay herr
  go_enter Tryz.func3, Tryz.ntmps3
  go_wp2_with fail
  refine (szc_any a xs.length cap xs 1048576 _ rfl (HP.out.later (bw1 _ _)) (fun x hx => (HX.out x hx).1.later (bw1 _ _)) (fun x hx => (HX.out x hx).2) hlm (by omega) (by omega)).mono ?_
  rintro e w1 ⟨⟨r, rfl, hr⟩, hx⟩
  have B0 : Hid (w1.heap[w.heap.size]? = some (.cells #[.slice a xs.length cap] 24)) := blk_later hx (blk_new _ _)
  have hb : Below w.heap.size w w1 := (bw1 _ _).trans (hx.mono (by simp))
  clear hx
  rcases hr with rfl | ⟨hr0, hr1⟩
  · go_wp2_with fail
    go_ret
    exact ⟨rfl, hb⟩
  have H : Hid (CodeAt w a xs) := code_raw HP.out HX.out (by omega)
  clear hr1
  obtain ⟨⟨c, p, i⟩, ht⟩ : ∃ t, t = shapeV (xs.map FC.d) := ⟨_, rfl⟩
  have HT : Hid ((c, p, i) = shapeV (xs.map FC.d)) := ht
  obtain ⟨len, hlen⟩ : ∃ len, len = xs.length := ⟨_, rfl⟩
  have HL : Hid (xs.length = len) := hlen.symm
  rw [← hlen] at B0 ⊢
  clear ht hlm hlen
  have a0 : w1.cell? ⟨w.heap.size, 0, none⟩ = some (.slice a len cap) := by rw [blk_cell B0.out]; rfl
  go_wp2_with fail
  refine (toc_any a len cap xs _ (H.out.later hb) HL.out).mono ?_
  rintro e w2 ⟨⟨g1, ys, rfl, hd1, hC1⟩, hx⟩
  have HC1 : Hid (CodeAt w2 (some ⟨g1, 0, none⟩) ys) := hC1
  have HD1 : Hid (ys.map FC.d = xs.map FC.d) := hd1
  have HYL : Hid (ys.length = len) := by have h := congrArg List.length hd1; simp only [List.length_map] at h; rw [HL.out] at h; exact h
  replace hb := hb.trans (hx.mono hb.size)
  replace B0 : Hid _ := blk_later hx B0.out
  clear hx hd1 hC1 a0
  go_wp2_with fail
  refine (shape_any (some ⟨g1, 0, none⟩) len len ys _ HC1.out HYL.out).mono ?_
  rw [HD1.out, ← HT.out, show F3V (c, p, i) = FV c p i from rfl]
  rintro e w3 ⟨rfl, hx⟩
  replace hb := hb.trans (hx.mono hb.size)
  replace B0 : Hid _ := blk_later hx B0.out
  clear hx HC1 HD1 HYL
  have hy := bw1 w3 (FO c p i)
  have hb3 := hb.trans (hy.mono hb.size)
  have a0 : (w3.alloc (FO c p i)).cell? ⟨w.heap.size, 0, none⟩ = some (.slice a len cap) := by rw [blk_cell (blk_later hy B0.out)]; rfl
  go_wp2_with fail
  refine (toc_any a len cap xs _ (H.out.later hb3) HL.out).mono ?_
  rintro e w4 ⟨⟨g2, zs, rfl, hd2, hC2⟩, hx⟩
  obtain ⟨gw, hgw⟩ : ∃ gw, gw = w3.heap.size := ⟨_, rfl⟩
  have BW : Hid (w4.heap[gw]? = some (FO c p i)) := blk_later hx (blk_newn hgw.symm _)
  rw [← hgw]
  have HC2 : Hid (CodeAt w4 (some ⟨g2, 0, none⟩) zs) := hC2
  have HD2 : Hid (zs.map FC.d = xs.map FC.d) := hd2
  have HZL : Hid (zs.length = len) := by have h := congrArg List.length hd2; simp only [List.length_map] at h; rw [HL.out] at h; exact h
  replace hb := hb3.trans (hx.mono hb3.size)
  replace B0 : Hid _ := blk_later hx (blk_later hy B0.out)
  clear hx hd2 hC2 a0 hy hb3 hgw
  have hy := bw1 w4 (CO (.slice (some ⟨g2, 0, none⟩) len len))
  have hb4 := hb.trans (hy.mono hb.size)
  go_wp2_with fail
  refine (icheck_any (some ⟨g2, 0, none⟩) len len zs _ (HC2.out.later hy) HZL.out (HLY.out.later hb4) (HER.out.later hb4)).mono ?_
  rw [HD2.out, ← HT.out, show F3V (c, p, i) = FV c p i from rfl]
  rintro e w5 ⟨rfl, hx⟩
  obtain ⟨gx, hgx⟩ : ∃ gx, gx = w4.heap.size := ⟨_, rfl⟩
  have BX : Hid (w5.heap[gx]? = some (CO (.slice (some ⟨g2, 0, none⟩) len len))) := blk_later hx (blk_newn hgx.symm _)
  rw [← hgx]
  replace BW : Hid _ := blk_later hx (blk_later hy BW.out)
  replace B0 : Hid _ := blk_later hx (blk_later hy B0.out)
  replace HC2 : Hid (CodeAt w5 (some ⟨g2, 0, none⟩) zs) := (HC2.out.later hy).later hx
  replace hb := hb4.trans (hx.mono hb4.size)
  clear hx hy hb4 hgx
  have hy := bw1 w5 (FO c p i)
  have w0 : (w5.alloc (FO c p i)).cell? ⟨gw, 0, none⟩ = some (.int .i64 c) := by rw [blk_cell (blk_later hy BW.out)]; rfl
  have w1' : (w5.alloc (FO c p i)).cell? ⟨gw, 1, none⟩ = some (.int .i64 p) := by rw [blk_cell (blk_later hy BW.out)]; rfl
  have w2' : (w5.alloc (FO c p i)).cell? ⟨gw, 2, none⟩ = some (.int .i64 i) := by rw [blk_cell (blk_later hy BW.out)]; rfl
  go_wp2_with fail
  refine (eqf_any c p i _).mono ?_
  rintro e w6 ⟨rfl, hx⟩
  replace BX : Hid _ := blk_later hx (blk_later hy BX.out)
  replace B0 : Hid _ := blk_later hx (blk_later hy B0.out)
  replace HC2 : Hid (CodeAt w6 (some ⟨g2, 0, none⟩) zs) := (HC2.out.later hy).later hx
  have hb5 := hb.trans (hy.mono hb.size)
  replace hb := hb5.trans (hx.mono hb5.size)
  have x0 : w6.cell? ⟨gx, 0, none⟩ = some (.slice (some ⟨g2, 0, none⟩) len len) := by rw [blk_cell BX.out]; rfl
  have a0 : w6.cell? ⟨w.heap.size, 0, none⟩ = some (.slice a len cap) := by rw [blk_cell B0.out]; rfl
  clear hx hy hb5 w0 w1' w2' BW BX B0
  go_wp2_with fail
  go_region_with (first | (go_at_call 6; refine (toc_any a len cap xs _ (H.out.later (hb.trans ((Below.refl _ _).drew))) HL.out).mono ?_; rintro e w7 ⟨⟨g3, us, rfl, hd3, hC3⟩, hx⟩; replace hx := und1 hx; have HC3 : Hid (CodeAt w7 (some ⟨g3, 0, none⟩) us) := hC3; have HD3 : Hid (us.map FC.d = zs.map FC.d) := hd3.trans HD2.out.symm; replace HC2 : Hid (CodeAt w7 (some ⟨g2, 0, none⟩) zs) := HC2.out.later hx; replace x0 := cell_later hx x0; replace hb := hb.trans (hx.mono hb.size); clear hx hC3 hd3) | (go_at_call 9; refine (eqc_any (some ⟨g2, 0, none⟩) (some ⟨g3, 0, none⟩) len len len zs us _ HZL.out HC2.out HC3.out HD3.out).mono ?_; rintro e w8 ⟨rfl, hx⟩; replace hb := hb.trans (hx.mono hb.size); clear hx))
  all_goals
    go_wp2_with fail
    go_ret
    exact ⟨rfl, hb⟩
end Go.Proofs.YtmicnjphlakoaaaGreatDoor.lawCheckShape
