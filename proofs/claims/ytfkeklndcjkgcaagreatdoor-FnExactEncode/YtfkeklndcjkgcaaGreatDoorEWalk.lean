/-
  OWN WORK. The law FnExactEncode: its walk.
-/
import Derived.Test.YtfkeklndcjkgcaaGreatDoorCOpen
import Derived.Test.YtfkeklndcjkgcaaGreatDoorCPEq
import Derived.Test.YtfkeklndcjkgcaaGreatDoorEsB
import Derived.Test.YtfkeklndcjkgcaaGreatDoorEImK
import Derived.Test.YtfkeklndcjkgcaaGreatDoorEmK
import Derived.Test.YtfkeklndcjkgcaaGreatDoorEByt
import Derived.Deep.CutRange
namespace Go.Proofs.YtfkeklndcjkgcaaGreatDoor.lawEncode
open Go.ChangeShapes Go.WideShapes Go.ChangeAt Go.RowKit
attribute [local go_sem] run_store_float
set_option linter.unusedVariables false
set_option linter.unusedSimpArgs false

theorem szL_mem : ∀ {xs : List FC} {x : FC}, x ∈ xs → szF x.d ≤ szL xs
  | y :: ys, x, h => by
    have hc : szL (y :: ys) = szF y.d + szL ys := by simp [szL]
    rcases List.mem_cons.1 h with rfl | h
    · omega
    · have := szL_mem h; omega
theorem szL_ins : ∀ xs : List FC, (xs.map fun x => x.d.ins.length).sum ≤ szL xs
  | [] => by simp [szL]
  | y :: ys => by
    have hc : szL (y :: ys) = szF y.d + szL ys := by simp [szL]
    have := szL_ins ys
    rw [List.map_cons, List.sum_cons, hc]
    have : y.d.ins.length ≤ szF y.d := by unfold szF; omega
    omega
theorem ok_of {f : FD} (h : f.raw) (hs : szF f ≤ 1048576) : f.ok := by
  unfold szF at hs
  exact ⟨h.name, by omega, by omega, by omega, by omega, h.c, h.n⟩
theorem code_raw {w : World} {a : Option Addr} {xs : List FC} (hp : SlA w 9 FC.cells a xs) (hx : ∀ x ∈ xs, x.lie w ∧ x.d.raw) (hs : xs.length + szL xs ≤ 1048576) : CodeAt w a xs :=
  ⟨hp, fun x h => (hx x h).1, fun x h => ok_of (hx x h).2 (by have := szL_mem h; omega), by omega, by have := szL_ins xs; omega⟩
theorem enc_len (c : List FD) : (encV c).length ≤ 1000000 := by
  unfold encV
  split
  · rename_i h; exact h.2
  · simp

theorem brow_lt {w : World} {B : Nat} {s : Value} {l : List UInt8} (h : BRow w B s l) (g : Nat) (hg : s.ownBlock = some g) : g < w.heap.size := by
  rcases h.2 with ⟨rfl, _⟩ | ⟨g', cap, cur, rfl, _, e3, _⟩
  · cases hg
  · cases hg; exact blk_lt e3
theorem brow_keep {w w' : World} {B C : Nat} {s : Value} {l : List UInt8} (h : BRow w B s l) (hg : ∀ g, s.ownBlock = some g → g < C) (hb : Below C w w') : BRow w' B s l := by
  obtain ⟨h1, h2⟩ := h
  refine ⟨h1, ?_⟩
  rcases h2 with h2 | ⟨g', cap, cur, rfl, e2, e3, e4⟩
  · exact .inl h2
  · exact .inr ⟨g', cap, cur, rfl, e2, (hb.block g' (hg g' rfl)).trans e3, e4⟩
theorem brow_fr {w w' : World} {B lo : Nat} {s : Value} {l : List UInt8} (h : BRow w B s l) (hf : Fr lo w w') : BRow w' B s l := by
  obtain ⟨h1, h2⟩ := h
  refine ⟨h1, ?_⟩
  rcases h2 with h2 | ⟨g', cap, cur, rfl, e2, e3, e4⟩
  · exact .inl h2
  · exact .inr ⟨g', cap, cur, rfl, e2, (hf.block g' (blk_lt e3) (.inr ⟨_, _, e3⟩)).trans e3, e4⟩
theorem fr_blk {w w' : World} {lo g : Nat} {o : Obj} (hf : Fr lo w w') (h : w.heap[g]? = some o) (hg : g < lo) : w'.heap[g]? = some o := (hf.block g (blk_lt h) (.inl hg)).trans h
theorem fr_below {w w1 w2 : World} {lo C : Nat} (hb : Below C w w1) (hC : C ≤ w.heap.size) (hf : Fr lo w1 w2) (hlo : C ≤ lo) : Below C w w2 :=
  hb.trans ⟨hf.os, hf.tape, hf.output, hf.size, fun j hj => hf.block j (by have := hb.size; omega) (.inl (by omega))⟩

set_option maxRecDepth 20000 in
set_option maxHeartbeats 16000000 in
theorem walk (a : Option Addr) (cap : Nat) (xs : List FC) (w : World) (hp : SlA w 9 FC.cells a xs) (hxs : ∀ x ∈ xs, x.lie w ∧ x.d.raw) (hlm : xs.length ≤ maxLen) (hlay : LayAt w) :
    Calls Tryz.prog 4 #[.agg #[.slice a xs.length cap]] w fun e w' => e = .returned (.bool true) ∧ Below w.heap.size w w' := by
  have HP : Hid (SlA w 9 FC.cells a xs) := hp
  have HX : Hid (∀ x ∈ xs, x.lie w ∧ x.d.raw) := hxs
  have HLY : Hid (LayAt w) := hlay
  clear hp hxs hlay
  go_enter Tryz.func4, Tryz.ntmps4
  go_wp2_with fail
  refine (szc_any a xs.length cap xs 1048576 _ rfl (HP.out.later (bw1 _ _)) (fun x hx => (HX.out x hx).1.later (bw1 _ _)) (fun x hx => (HX.out x hx).2) hlm (by omega) (by omega)).mono ?_
  rintro e w1 ⟨⟨r, rfl, hr⟩, hx⟩
  have B0 : Hid (w1.heap[w.heap.size]? = some (.cells #[.slice a xs.length cap] 24)) := blk_later hx (blk_new _ _)
  have hb : Below w.heap.size w w1 := (bw1 _ _).trans (hx.mono (by simp))
  clear hx
  rcases hr with rfl | ⟨hr0, hr1⟩
  · go_wp2_with fail
    go_ret
    exact ⟨rfl, hb⟩
  have H : Hid (CodeAt w a xs) := code_raw HP.out HX.out (by omega)
  have hlen2 : xs.length ≤ 1048576 := by omega
  clear hr1
  obtain ⟨T, hs⟩ : ∃ T, T = encV (xs.map FC.d) := ⟨_, rfl⟩
  have HT : Hid (T = encV (xs.map FC.d)) := hs
  have hTl : T.length ≤ 2000000 := by have := enc_len (xs.map FC.d); rw [hs]; omega
  have HTL : Hid (T.length ≤ 2000000) := hTl
  obtain ⟨len, hlen⟩ : ∃ len, len = xs.length := ⟨_, rfl⟩
  have HL : Hid (xs.length = len) := hlen.symm
  rw [← hlen] at B0 hlen2 ⊢
  clear hs hlm hlen hTl
  have a0 : w1.cell? ⟨w.heap.size, 0, none⟩ = some (.slice a len cap) := by rw [blk_cell B0.out]; rfl
  go_wp2_with fail
  refine (toc_any a len cap xs _ (H.out.later hb) HL.out).mono ?_
  rintro e w2 ⟨⟨g1, ys, rfl, hd1, hC1⟩, hx⟩
  have HC1 : Hid (CodeAt w2 (some ⟨g1, 0, none⟩) ys) := hC1
  have HD1 : Hid (ys.map FC.d = xs.map FC.d) := hd1
  have HYL : Hid (ys.length = len) := by have h := congrArg List.length hd1; simp only [List.length_map] at h; rw [HL.out] at h; exact h
  replace hb := hb.trans (hx.mono hb.size)
  replace B0 : Hid _ := blk_later hx B0.out
  clear hx hd1 hC1 a0
  go_wp2_with fail
  refine (senc_any (some ⟨g1, 0, none⟩) len len ys _ HC1.out HYL.out).mono ?_
  rw [HD1.out, ← HT.out]
  rintro e w3 ⟨⟨s0, rfl, hr0⟩, hx⟩
  have HR0 : Hid (BRow w3 w2.heap.size s0 T) := hr0
  replace hb := hb.trans (hx.mono hb.size)
  replace B0 : Hid _ := blk_later hx B0.out
  have hw23 := hx.size
  clear hx HC1 HD1 HYL hr0
  have a0 : w3.cell? ⟨w.heap.size, 0, none⟩ = some (.slice a len cap) := by rw [blk_cell B0.out]; rfl
  go_wp2_with fail
  refine (toc_own a len cap xs _ (H.out.later hb) HL.out).mono ?_
  rintro e w4 ⟨⟨g2, zs, rfl, hd2, hC2, hg2, hRG, hOW⟩, hx⟩
  have HC2 : Hid (CodeAt w4 (some ⟨g2, 0, none⟩) zs) := hC2
  have HD2 : Hid (zs.map FC.d = xs.map FC.d) := hd2
  have HZL : Hid (zs.length = len) := by have h := congrArg List.length hd2; simp only [List.length_map] at h; rw [HL.out] at h; exact h
  have HPR : Hid (PR w4 g2 len zs) := PR.of hRG hOW HZL.out
  have hb34 : w3.heap.size ≤ w4.heap.size := hx.size
  have hb2 : w.heap.size ≤ g2 := Nat.le_trans hb.size hg2
  replace HR0 : Hid (BRow w4 w2.heap.size s0 T) := HR0.out.later hx
  replace hb := hb.trans (hx.mono hb.size)
  replace B0 : Hid _ := blk_later hx B0.out
  have hg0 : w.heap.size < g2 := Nat.lt_of_lt_of_le (World.block_lt_of_cell? _ _ a0) hg2
  have hg4 : g2 < w4.heap.size := HPR.out.lt
  have HS0 : Hid (∀ g, s0.ownBlock = some g → g < w4.heap.size) := fun g hg => brow_lt HR0.out g hg
  clear hx hd2 hC2 a0 hg2 hRG hOW hb34
  have hy := bw1 w4 (CO (.slice (some ⟨g2, 0, none⟩) len len))
  have hb4 := hb.trans (hy.mono hb.size)
  obtain ⟨C, hC⟩ : ∃ C, C = (w4.alloc (CO (.slice (some ⟨g2, 0, none⟩) len len))).heap.size := ⟨_, rfl⟩
  have hCw : w4.heap.size ≤ C := by rw [hC]; exact hy.size
  go_wp2_with fail
  refine (ienc_any (some ⟨g2, 0, none⟩) len len zs _ (HC2.out.later hy) HZL.out (HLY.out.later hb4)).mono ?_
  rw [HD2.out, ← HT.out]
  rintro e w5 ⟨⟨s1, rfl, hr1⟩, hx⟩
  rw [← hC] at hr1
  have HR1 : Hid (BRow w5 C s1 T) := hr1
  replace HR0 : Hid (BRow w5 w2.heap.size s0 T) := (HR0.out.later hy).later hx
  obtain ⟨gx, hgx⟩ : ∃ gx, gx = w4.heap.size := ⟨_, rfl⟩
  have BX : Hid (w5.heap[gx]? = some (CO (.slice (some ⟨g2, 0, none⟩) len len))) := blk_later hx (blk_newn hgx.symm _)
  rw [← hgx]
  replace B0 : Hid _ := blk_later hx (blk_later hy B0.out)
  replace HC2 : Hid (CodeAt w5 (some ⟨g2, 0, none⟩) zs) := (HC2.out.later hy).later hx
  replace HPR : Hid (PR w5 g2 len zs) := (HPR.out.later hy).later hx
  replace hb := hb4.trans (hx.mono hb4.size)
  clear hx hy hb4 hr1 hC
  rw [← hgx] at HS0 hCw hg4
  clear hgx
  go_wp2_with fail
  refine (eqb_any s1 s0 T _ HR1.out.rd HR0.out.rd HTL.out).mono ?_
  rintro e w6 ⟨rfl, hx⟩
  replace HR1 : Hid (BRow w6 C s1 T) := HR1.out.later hx
  replace HR0 : Hid (BRow w6 w2.heap.size s0 T) := HR0.out.later hx
  replace BX : Hid _ := blk_later hx BX.out
  replace B0 : Hid _ := blk_later hx B0.out
  replace HC2 : Hid (CodeAt w6 (some ⟨g2, 0, none⟩) zs) := HC2.out.later hx
  replace HPR : Hid (PR w6 g2 len zs) := HPR.out.later hx
  replace hb := hb.trans (hx.mono hb.size)
  clear hx
  have x0 : w6.cell? ⟨gx, 0, none⟩ = some (.slice (some ⟨g2, 0, none⟩) len len) := by rw [blk_cell BX.out]; rfl
  have a0 : w6.cell? ⟨w.heap.size, 0, none⟩ = some (.slice a len cap) := by rw [blk_cell B0.out]; rfl
  go_wp2_with fail
  go_cut [31] from 27 to 30 (fun s31 wr => s31 = .bool false ∧ Hid (BRow wr C s1 T) ∧ Hid (BRow wr w2.heap.size s0 T) ∧ Hid (wr.heap[gx]? = some (CO (.slice (some ⟨g2, 0, none⟩) len len))) ∧ Hid (wr.heap[w.heap.size]? = some (.cells #[.slice a len cap] 24)) ∧ Hid (PR wr g2 len zs) ∧ Hid (Below w.heap.size w wr))
  case first =>
    have HB : Hid (Below w6.heap.size w6 w6) := Below.refl _ _
    go_region_with (first | (go_at_call 8; refine (toc_any a len cap xs _ (H.out.later (hb.trans ((Below.refl _ _).drew))) HL.out).mono ?_; rintro e w7 ⟨⟨g3, us, rfl, hd3, hC3⟩, hx⟩; replace hx := und1 hx; have HC3 : Hid (CodeAt w7 (some ⟨g3, 0, none⟩) us) := hC3; have HD3 : Hid (us.map FC.d = zs.map FC.d) := hd3.trans HD2.out.symm; replace HC2 : Hid (CodeAt w7 (some ⟨g2, 0, none⟩) zs) := HC2.out.later hx; replace x0 := cell_later hx x0; replace HB : Hid (Below w6.heap.size w6 w7) := HB.out.trans (hx.mono HB.out.size); clear hx hC3 hd3) | (go_at_call 10; refine (eqc_any (some ⟨g2, 0, none⟩) (some ⟨g3, 0, none⟩) len len len zs us _ HZL.out HC2.out HC3.out HD3.out).mono ?_; rintro e w8 ⟨rfl, hx⟩; replace HB : Hid (Below w6.heap.size w6 w8) := HB.out.trans (hx.mono HB.out.size); clear hx))
    all_goals
      go_wp2_with fail
      go_meet
      exact ⟨rfl, HR1.out.later HB.out, HR0.out.later HB.out, blk_later HB.out BX.out, blk_later HB.out B0.out, HPR.out.later HB.out, hb.trans (HB.out.mono hb.size)⟩
  case rest =>
    have HOK : Hid (∀ y ∈ zs, y.d.ok) := HC2.out.ok
    clear HR1 HR0 BX B0 HPR hb x0 a0 HC2
    obtain ⟨rfl, HR1, HR0, BX, B0, HPR, HB⟩ := hcut
    have x0 : wc.cell? ⟨gx, 0, none⟩ = some (.slice (some ⟨g2, 0, none⟩) len len) := by rw [blk_cell BX.out]; rfl
    go_wp2_with fail
    refine (markCode_any g2 len len zs wc HPR.out HZL.out hlen2 HOK.out).mono ?_
    rintro e w9 ⟨⟨k, hk, rfl⟩, hf⟩
    have hk' : ¬ k < 0 := by omega
    replace HR1 : Hid (BRow w9 C s1 T) := brow_fr HR1.out hf
    replace HR0 : Hid (BRow w9 w2.heap.size s0 T) := brow_fr HR0.out hf
    replace B0 : Hid (w9.heap[w.heap.size]? = some (.cells #[.slice a len cap] 24)) := fr_blk hf B0.out hg0
    replace HB : Hid (Below w.heap.size w w9) := fr_below HB.out (Nat.le_refl _) hf (by omega)
    clear hf x0 BX HPR HOK hk
    have hkd : decide (k < 0) = false := by simpa using hk'
    go_wp2_with fail
    refine (eqb_any s1 s0 T _ HR1.out.rd HR0.out.rd HTL.out).mono ?_
    rintro e w10 ⟨rfl, hx⟩
    replace HR1 : Hid (BRow w10 C s1 T) := HR1.out.later hx
    replace HR0 : Hid (BRow w10 w2.heap.size s0 T) := HR0.out.later hx
    replace B0 : Hid _ := blk_later hx B0.out
    replace HB : Hid (Below w.heap.size w w10) := HB.out.trans (hx.mono HB.out.size)
    clear hx
    go_wp2_with fail
    refine (markb_any C s1 T w10 HR1.out HTL.out).mono ?_
    rintro e w11 ⟨rfl, hr, hbm⟩
    obtain ⟨n, hn⟩ : ∃ n, n = T.length := ⟨_, rfl⟩
    have hn2 : n ≤ 2000000 := by rw [hn]; exact HTL.out
    rw [← hn] at hr ⊢
    clear HR1
    have HR1 : Hid (BRow w11 C s1 (mkB n)) := hr
    replace HR0 : Hid (BRow w11 w2.heap.size s0 T) := brow_keep HR0.out (fun g hg => Nat.lt_of_lt_of_le (HS0.out g hg) hCw) hbm
    have hCg : w.heap.size < C := by omega
    replace B0 : Hid (w11.heap[w.heap.size]? = some (.cells #[.slice a len cap] 24)) := (hbm.block _ hCg).trans B0.out
    replace HB : Hid (Below w.heap.size w w11) := HB.out.trans (hbm.mono (by omega))
    clear hr hbm hn
    go_wp2_with fail
    refine (held_any s1 n w11 HR1.out.rd hn2).mono ?_
    rintro e w12 ⟨rfl, hx⟩
    replace HR1 : Hid (BRow w12 C s1 (mkB n)) := HR1.out.later hx
    replace HR0 : Hid (BRow w12 w2.heap.size s0 T) := HR0.out.later hx
    replace B0 : Hid _ := blk_later hx B0.out
    replace HB : Hid (Below w.heap.size w w12) := HB.out.trans (hx.mono HB.out.size)
    clear hx
    have a0 : w12.cell? ⟨w.heap.size, 0, none⟩ = some (.slice a len cap) := by rw [blk_cell B0.out]; rfl
    go_wp2_with fail
    refine (toc_any a len cap xs _ (H.out.later HB.out) HL.out).mono ?_
    rintro e w13 ⟨⟨g4, us, rfl, hd4, hC4⟩, hx⟩
    have HC4 : Hid (CodeAt w13 (some ⟨g4, 0, none⟩) us) := hC4
    have HD4 : Hid (us.map FC.d = xs.map FC.d) := hd4
    have HUL : Hid (us.length = len) := by have h := congrArg List.length hd4; simp only [List.length_map] at h; rw [HL.out] at h; exact h
    replace HR1 : Hid (BRow w13 C s1 (mkB n)) := HR1.out.later hx
    replace HR0 : Hid (BRow w13 w2.heap.size s0 T) := HR0.out.later hx
    replace HB : Hid (Below w.heap.size w w13) := HB.out.trans (hx.mono HB.out.size)
    clear hx hd4 hC4 a0 B0
    go_wp2_with fail
    refine (ienc_any (some ⟨g4, 0, none⟩) len len us _ HC4.out HUL.out (HLY.out.later HB.out)).mono ?_
    rw [HD4.out, ← HT.out]
    rintro e w14 ⟨⟨s2, rfl, hr2⟩, hx⟩
    have HR2 : Hid (Rd w14 s2 T) := hr2.rd
    replace HR1 : Hid (BRow w14 C s1 (mkB n)) := HR1.out.later hx
    replace HR0 : Hid (BRow w14 w2.heap.size s0 T) := HR0.out.later hx
    replace HB : Hid (Below w.heap.size w w14) := HB.out.trans (hx.mono HB.out.size)
    clear hx hr2 HC4 HD4 HUL
    go_wp2_with fail
    refine (eqb_any s2 s0 T _ HR2.out HR0.out.rd HTL.out).mono ?_
    rintro e w15 ⟨rfl, hx⟩
    replace HR1 : Hid (BRow w15 C s1 (mkB n)) := HR1.out.later hx
    replace HB : Hid (Below w.heap.size w w15) := HB.out.trans (hx.mono HB.out.size)
    clear hx HR2 HR0
    go_wp2_with fail
    refine (held_any s1 n w15 HR1.out.rd hn2).mono ?_
    rintro e w16 ⟨rfl, hx⟩
    replace HB : Hid (Below w.heap.size w w16) := HB.out.trans (hx.mono HB.out.size)
    clear hx HR1
    go_wp2_with fail
    go_ret
    exact ⟨rfl, HB.out⟩
end Go.Proofs.YtfkeklndcjkgcaaGreatDoor.lawEncode
