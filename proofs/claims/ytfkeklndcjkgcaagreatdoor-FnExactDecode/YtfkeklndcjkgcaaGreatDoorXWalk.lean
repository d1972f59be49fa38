/-
  OWN WORK. The law FnExactDecode: its walk.
-/
import Derived.Test.YtfkeklndcjkgcaaGreatDoorXsF
import Derived.Test.YtfkeklndcjkgcaaGreatDoorXsE
import Derived.Test.YtfkeklndcjkgcaaGreatDoorCPEq
namespace Go.Proofs.YtfkeklndcjkgcaaGreatDoor.lawDecode
open Go.ChangeShapes Go.WideShapes Go.ChangeAt Go.RowKit
attribute [local go_sem] run_store_float
set_option linter.unusedVariables false
set_option linter.unusedSimpArgs false

theorem OwnC.bo {w w' : World} {lo gX : Nat} {sv : Value} {xs : List FC} {ar : Array Value} (h : OwnC w lo sv xs) (hb : Bo (some ⟨gX, 0, none⟩) w w') (hx : w.heap[gX]? = some (.cells ar 5)) : OwnC w' lo sv xs := by
  have key : ∀ (j : Nat) (arr : Array Value) (T : TypeId), T ≠ 5 → w.heap[j]? = some (.cells arr T (0, 0)) → w'.heap[j]? = w.heap[j]? := fun j arr T hT he => hb.block j (blk_lt he) fun e => by
    simp only [Option.some.injEq, Addr.mk.injEq, and_true] at e
    rw [← e, hx] at he
    cases he
    exact hT rfl
  exact ⟨h.row.keep fun j arr _ he => key j arr _ (by decide) he, fun x hx' => ⟨(h.own x hx').u.keep fun j arr _ he => key j arr _ (by decide) he, (h.own x hx').c.keep fun j arr _ he => key j arr _ (by decide) he, (h.own x hx').i.keep fun j arr _ he => key j arr _ (by decide) he, (h.own x hx').n.keep fun j arr _ he => key j arr _ (by decide) he⟩, h.dis, h.ok, h.len, h.all⟩
theorem Bo.blk {w w' : World} {gX j : Nat} {o : Obj} (hb : Bo (some ⟨gX, 0, none⟩) w w') (h : w.heap[j]? = some o) (hj : gX ≠ j) : w'.heap[j]? = some o :=
  (hb.block j (blk_lt h) fun e => hj (by simp only [Option.some.injEq, Addr.mk.injEq, and_true] at e; exact e)).trans h
theorem Bo.below {w0 w w' : World} {gX : Nat} (hb : Bo (some ⟨gX, 0, none⟩) w w') (h0 : Below w0.heap.size w0 w) (hg : w0.heap.size ≤ gX) : Below w0.heap.size w0 w' :=
  Bo.bel hb h0 (Nat.le_refl _) fun g e => by simp only [Option.some.injEq, Addr.mk.injEq, and_true] at e; omega
theorem rowG_by {w : World} {g : Nat} {l : List UInt8} (h : RowG w g 1 5 byteC l) (i : Nat) (u : UInt8) (hu : l[i]? = some u) : w.cell? ⟨g, 0 + i, none⟩ = some (.int .u8 (u.toNat : Int)) := by
  obtain ⟨b, off, e, _, hc⟩ := byte_cell h.at hu
  cases e
  exact hc
theorem rowG_rd {w : World} {g n : Nat} {l : List UInt8} (h : RowG w g 1 5 byteC l) (hl : l.length = n) : Rd w (.slice (some ⟨g, 0, none⟩) n n) l := ⟨_, n, by rw [hl], h.at⟩

set_option maxRecDepth 20000 in
set_option maxHeartbeats 32000000 in
theorem walk (a : Option Addr) (n cap : Nat) (l : List UInt8) (w : World) (hp : SlA w 1 byteC a l) (hl : l.length = n) (hlm : n ≤ maxLen) (hlay : LayAt w) :
    Calls Tryz.prog 5 #[.slice a n cap] w fun e w' => e = .returned (.bool true) ∧ Below w.heap.size w w' := by
  unfold maxLen at hlm
  by_cases k1 : 1048576 < n
  · clear hp hl hlay
    go_enter Tryz.func5, Tryz.ntmps5
    go_wp2_with fail
    go_ret
    exact ⟨rfl, Below.refl _ _⟩
  have hn : n ≤ 1048576 := by omega
  have HMX : Hid (n ≤ maxLen) := by show n ≤ maxLen; unfold maxLen; omega
  have TB : Hid (∀ W, Below w.heap.size w W → Calls Tryz.prog 18 #[.slice a n cap] W fun e w' => e = .returned (.slice (some ⟨W.heap.size, 0, none⟩) n n) ∧ Below W.heap.size W w' ∧ RowG w' W.heap.size 1 5 byteC l) := fun W hb => tob_any a n cap l W hl (hp.later hb) hn
  have HL : Hid (l.length = n) := hl
  have HLY : Hid (LayAt w) := hlay
  clear hp hl hlay hlm k1
  go_enter Tryz.func5, Tryz.ntmps5
  go_wp2_with fail
  refine (TB.out _ (Below.refl _ _)).mono ?_
  rintro e w1 ⟨rfl, hb, hR⟩
  have HSP : Hid _ := sdec_any w.heap.size 0 n n l w1 (rowG_by hR) (RowG.lt hR) HL.out (Nat.le_refl _) HMX.out
  clear hR
  go_wp2_with fail
  refine Calls.mono HSP.out ?_
  rintro e w2 ⟨⟨aS, cpS, xsS, rfl, hCS, hDS⟩, hx⟩
  have hb2 : Below w.heap.size w w2 := hb.trans (hx.mono hb.size)
  obtain ⟨nS, hnS⟩ : ∃ nS, nS = xsS.length := ⟨_, rfl⟩
  rw [← hnS]
  have HNS : Hid (xsS.length = nS) := hnS.symm
  have HCS : Hid (CodeAt w2 aS xsS) := hCS
  have HDS : Hid (DecP l (xsS.map FC.d)) := hDS
  obtain ⟨V, hV⟩ : ∃ V, V = w2.alloc (CO (.slice aS nS cpS)) := ⟨_, rfl⟩
  have hV1 : Below w2.heap.size w2 V := by rw [hV]; exact bw1 _ _
  have GW : Hid (V.heap[w2.heap.size]? = some (CO (.slice aS nS cpS))) := by show V.heap[w2.heap.size]? = _; rw [hV]; exact blk_new _ _
  have hb3 : Below w.heap.size w V := hb2.trans (hV1.mono hb2.size)
  have HBV : Hid (Below w.heap.size w V) := hb3
  have HV1 : Hid (Below w2.heap.size w2 V) := hV1
  have hVs : w2.heap.size < V.heap.size := by rw [hV]; simp
  have hw2 : w.heap.size ≤ w2.heap.size := hb2.size
  clear hb hx hb2 hnS hCS hDS hV1 hb3 HSP
  go_wp2_with fail
  rw [← hV]
  clear hV
  refine (TB.out _ HBV.out).mono ?_
  rintro e w3 ⟨rfl, hx, hR⟩
  obtain ⟨gX, hgX⟩ : ∃ gX, gX = V.heap.size := ⟨_, rfl⟩
  rw [← hgX] at hR ⊢
  have HRX : Hid (RowG w3 gX 1 5 byteC l) := hR
  have GW3 : Hid (w3.heap[w2.heap.size]? = some (CO (.slice aS nS cpS))) := blk_later hx GW.out
  have HB3 : Hid (Below w.heap.size w w3) := HBV.out.trans (hx.mono HBV.out.size)
  have HS3 : Hid (Below w2.heap.size w2 w3) := HV1.out.trans (hx.mono HV1.out.size)
  have hgX2 : w2.heap.size < gX := by omega
  have hgX3 : gX < w3.heap.size := RowG.lt hR
  have HID : Hid _ := idec_any gX 0 n n l w3 (rowG_by hR) (RowG.lt hR) HL.out (Nat.le_refl _) HMX.out (HLY.out.later HB3.out)
  clear hx hR GW HBV HV1 hVs hgX
  go_wp2_with fail
  refine Calls.mono HID.out ?_
  rintro e w4 ⟨⟨sv, xs, rfl, hO, hD⟩, hx⟩
  have hdd : xsS.map FC.d = xs.map FC.d := HDS.out.uniq hD
  have HDD : Hid (xsS.map FC.d = xs.map FC.d) := hdd
  have hlen : xs.length = nS := by have h := congrArg List.length hdd; simp only [List.length_map] at h; rw [HNS.out] at h; exact h.symm
  have HNX : Hid (xs.length = nS) := hlen
  obtain ⟨aG, cpG, hsv, hAG⟩ := hO.at_
  rw [hlen] at hsv
  subst hsv
  have HO : Hid (OwnC w4 w3.heap.size (.slice aG nS cpG) xs) := hO
  obtain ⟨U, hU⟩ : ∃ U, U = w4.alloc (CO (.slice aG nS cpG)) := ⟨_, rfl⟩
  have hU1 : Below w4.heap.size w4 U := by rw [hU]; exact bw1 _ _
  have GG : U.heap[w4.heap.size]? = some (CO (.slice aG nS cpG)) := by rw [hU]; exact blk_new _ _
  have hx4U : Below w3.heap.size w3 U := hx.trans (hU1.mono hx.size)
  have h34 : w3.heap.size ≤ w4.heap.size := hx.size
  have hUs : w4.heap.size < U.heap.size := by rw [hU]; simp
  have hnS2 : nS ≤ 1000000 := by rw [← hlen]; exact hO.len
  obtain ⟨gG, hgG⟩ : ∃ gG, gG = w4.heap.size := ⟨_, rfl⟩
  rw [← hgG] at GG hUs h34
  have HOU : Hid (OwnC U w3.heap.size (.slice aG nS cpG) xs) := hO.later hU1
  have HGG : Hid (U.heap[gG]? = some (CO (.slice aG nS cpG))) := GG
  have HGW : Hid (U.heap[w2.heap.size]? = some (CO (.slice aS nS cpS))) := blk_later hx4U GW3.out
  have HRU : Hid (RowG U gX 1 5 byteC l) := RowG.later hx4U HRX.out
  have HBU : Hid (Below w.heap.size w U) := HB3.out.trans (hx4U.mono HB3.out.size)
  have HSU : Hid (Below w2.heap.size w2 U) := HS3.out.trans (hx4U.mono HS3.out.size)
  have EQ : Hid (∀ W, OwnC W w3.heap.size (.slice aG nS cpG) xs → Below w2.heap.size w2 W → Calls Tryz.prog 10 #[.agg #[.slice aG nS cpG], .agg #[.slice aS nS cpS]] W fun e w' => e = .returned (.bool true) ∧ Below W.heap.size W w') := fun W hW hS => by
    obtain ⟨a', c', e', hA'⟩ := hW.at_
    have e1 : aG = a' := by injection e'
    rw [← e1] at hA'
    exact eqc_any aG aS cpG cpS nS xs xsS W HNX.out hA' (HCS.out.later hS) HDD.out
  have OKX : Hid (∀ y ∈ xs, y.d.ok) := hO.ok
  have c3 : (w4.alloc (.cells #[.slice aG nS cpG] 29)).cell? ⟨w2.heap.size, 0, none⟩ = some (.slice aS nS cpS) := by
    show (w4.alloc (CO (.slice aG nS cpG))).cell? _ = _
    rw [← hU, blk_cell HGW.out]
    rfl
  have HU : Hid (U = w4.alloc (.cells #[.slice aG nS cpG] 29)) := hU
  have HgG : Hid (gG = w4.heap.size) := hgG
  clear hO hD hdd hlen hAG hU1 GG hx4U hx GW3 HB3 HS3 HRX HID HO hU hgG
  go_wp2_with fail
  rw [← HU.out, ← HgG.out]
  clear HU HgG c3
  refine (EQ.out U HOU.out HSU.out).mono ?_
  rintro e w5 ⟨rfl, hx⟩
  replace HOU : Hid (OwnC w5 w3.heap.size (.slice aG nS cpG) xs) := HOU.out.later hx
  replace HGG : Hid (w5.heap[gG]? = some (CO (.slice aG nS cpG))) := blk_later hx HGG.out
  replace HGW : Hid (w5.heap[w2.heap.size]? = some (CO (.slice aS nS cpS))) := blk_later hx HGW.out
  replace HRU : Hid (RowG w5 gX 1 5 byteC l) := RowG.later hx HRU.out
  replace HBU : Hid (Below w.heap.size w w5) := HBU.out.trans (hx.mono HBU.out.size)
  replace HSU : Hid (Below w2.heap.size w2 w5) := HSU.out.trans (hx.mono HSU.out.size)
  have h3U : w3.heap.size ≤ w5.heap.size := by have := hx.size; omega
  clear hx hUs
  go_wp2_with fail
  refine (TB.out _ HBU.out).mono ?_
  rintro e w6 ⟨rfl, hx, hR⟩
  have HR6 : Hid (Rd w6 (.slice (some ⟨w5.heap.size, 0, none⟩) n n) l) := rowG_rd hR HL.out
  replace HOU : Hid (OwnC w6 w3.heap.size (.slice aG nS cpG) xs) := HOU.out.later hx
  replace HGG : Hid (w6.heap[gG]? = some (CO (.slice aG nS cpG))) := blk_later hx HGG.out
  replace HGW : Hid (w6.heap[w2.heap.size]? = some (CO (.slice aS nS cpS))) := blk_later hx HGW.out
  replace HRU : Hid (RowG w6 gX 1 5 byteC l) := RowG.later hx HRU.out
  replace HBU : Hid (Below w.heap.size w w6) := HBU.out.trans (hx.mono HBU.out.size)
  replace HSU : Hid (Below w2.heap.size w2 w6) := HSU.out.trans (hx.mono HSU.out.size)
  replace h3U : w3.heap.size ≤ w6.heap.size := by have := hx.size; omega
  clear hx hR
  go_wp2_with fail
  refine (eqb_any _ _ l _ (rowG_rd HRU.out HL.out) HR6.out (by rw [HL.out]; omega)).mono ?_
  rintro e w7 ⟨rfl, hx⟩
  replace HOU : Hid (OwnC w7 w3.heap.size (.slice aG nS cpG) xs) := HOU.out.later hx
  replace HGG : Hid (w7.heap[gG]? = some (CO (.slice aG nS cpG))) := blk_later hx HGG.out
  replace HGW : Hid (w7.heap[w2.heap.size]? = some (CO (.slice aS nS cpS))) := blk_later hx HGW.out
  replace HRU : Hid (RowG w7 gX 1 5 byteC l) := RowG.later hx HRU.out
  replace HBU : Hid (Below w.heap.size w w7) := HBU.out.trans (hx.mono HBU.out.size)
  replace HSU : Hid (Below w2.heap.size w2 w7) := HSU.out.trans (hx.mono HSU.out.size)
  replace h3U : w3.heap.size ≤ w7.heap.size := by have := hx.size; omega
  clear hx HR6
  have hrg : ∃ ar, w7.heap[gX]? = some (.cells ar 5) ∧ ar.size = n := by
    obtain ⟨ar, r1, r2, _⟩ := HRU.out
    exact ⟨ar, r1, by rw [r2, HL.out]; omega⟩
  have HMB : Hid _ := mkb_any gX n n 5 w7 hrg hn
  obtain ⟨arX, hX1, _⟩ := hrg
  have HX1 : Hid (w7.heap[gX]? = some (.cells arX 5)) := hX1
  clear hX1
  go_wp2_with fail
  refine Calls.mono HMB.out ?_
  rintro e w8 ⟨rfl, hbo⟩
  have hgGX : gX ≠ gG := by omega
  have hwX : w.heap.size ≤ gX := by have := HSU.out.size; have h1 : w.heap.size ≤ w2.heap.size := hw2; omega
  replace HOU : Hid (OwnC w8 w3.heap.size (.slice aG nS cpG) xs) := OwnC.bo HOU.out hbo HX1.out
  replace HGG : Hid (w8.heap[gG]? = some (CO (.slice aG nS cpG))) := Bo.blk hbo HGG.out hgGX
  replace HGW : Hid (w8.heap[w2.heap.size]? = some (CO (.slice aS nS cpS))) := Bo.blk hbo HGW.out (by omega)
  replace HBU : Hid (Below w.heap.size w w8) := Bo.below hbo HBU.out hwX
  replace HSU : Hid (Below w2.heap.size w2 w8) := Bo.below hbo HSU.out (by omega)
  replace h3U : w3.heap.size ≤ w8.heap.size := by have := hbo.size; omega
  clear hbo HX1 HMB HRU
  have c3 : w8.cell? ⟨w2.heap.size, 0, none⟩ = some (.slice aS nS cpS) := (blk_cell HGW.out 0).trans rfl
  have c5 : w8.cell? ⟨gG, 0, none⟩ = some (.slice aG nS cpG) := (blk_cell HGG.out 0).trans rfl
  go_wp2_with fail
  refine (EQ.out w8 HOU.out HSU.out).mono ?_
  rintro e w9 ⟨rfl, hx⟩
  replace HOU : Hid (OwnC w9 w3.heap.size (.slice aG nS cpG) xs) := HOU.out.later hx
  replace HGG : Hid (w9.heap[gG]? = some (CO (.slice aG nS cpG))) := blk_later hx HGG.out
  replace HGW : Hid (w9.heap[w2.heap.size]? = some (CO (.slice aS nS cpS))) := blk_later hx HGW.out
  replace HBU : Hid (Below w.heap.size w w9) := HBU.out.trans (hx.mono HBU.out.size)
  replace HSU : Hid (Below w2.heap.size w2 w9) := HSU.out.trans (hx.mono HSU.out.size)
  replace h3U : w3.heap.size ≤ w9.heap.size := by have := hx.size; omega
  clear hx c3 c5
  have c5 : w9.cell? ⟨gG, 0, none⟩ = some (.slice aG nS cpG) := (blk_cell HGG.out 0).trans rfl
  obtain ⟨K, hK⟩ : ∃ K, K = KK xs nS := ⟨_, rfl⟩
  have hK0 : 0 < K := by rw [hK]; exact KK_pos _ _
  have hKm : K ≤ 1 + nS * 16777221 := by rw [hK]; exact KK_le OKX.out nS (by rw [HNX.out]; exact Nat.le_refl _)
  have HMK : Hid (Calls _ _ _ _ _) := mkc_any aG nS cpG w3.heap.size xs w9 HOU.out HNX.out h3U
  have HHD : Hid (∀ W, Mkd W aG xs → Calls Tryz.prog 20 #[.agg #[.slice aG nS cpG], .int .i64 1] W fun e w' => e = .returned (.int .i64 (K : Int)) ∧ Below W.heap.size W w') := fun W hW => by rw [hK]; exact hdc_any aG nS cpG xs W hW HNX.out (by omega) OKX.out
  rw [← hK] at HMK
  clear hK HOU
  go_wp2_with fail
  refine Calls.mono (show Calls _ _ _ _ _ from HMK.out) ?_
  rintro e w10 ⟨rfl, hx, hm, hty⟩
  have HM : Hid (Mkd w10 aG xs) := hm
  replace HGG : Hid (w10.heap[gG]? = some (CO (.slice aG nS cpG))) := hty gG _ _ _ HGG.out (by decide) (by decide) (by decide) (by decide) (by decide)
  replace HGW : Hid (w10.heap[w2.heap.size]? = some (CO (.slice aS nS cpS))) := hty w2.heap.size _ _ _ HGW.out (by decide) (by decide) (by decide) (by decide) (by decide)
  replace HBU : Hid (Below w.heap.size w w10) := HBU.out.trans (hx.mono (by omega))
  replace HSU : Hid (Below w2.heap.size w2 w10) := HSU.out.trans (hx.mono (by omega))
  clear hx hm hty c5 HMK h3U
  have c5 : w10.cell? ⟨gG, 0, none⟩ = some (.slice aG nS cpG) := (blk_cell HGG.out 0).trans rfl
  go_wp2_with fail
  refine (HHD.out _ HM.out).mono ?_
  rintro e w11 ⟨rfl, hx⟩
  replace HM : Hid (Mkd w11 aG xs) := HM.out.later hx
  replace HGG : Hid (w11.heap[gG]? = some (CO (.slice aG nS cpG))) := blk_later hx HGG.out
  replace HGW : Hid (w11.heap[w2.heap.size]? = some (CO (.slice aS nS cpS))) := blk_later hx HGW.out
  replace HBU : Hid (Below w.heap.size w w11) := HBU.out.trans (hx.mono HBU.out.size)
  replace HSU : Hid (Below w2.heap.size w2 w11) := HSU.out.trans (hx.mono HSU.out.size)
  clear hx c5
  go_wp2_with fail
  refine (TB.out _ HBU.out).mono ?_
  rintro e w12 ⟨rfl, hx, hR⟩
  replace HM : Hid (Mkd w12 aG xs) := HM.out.later hx
  replace HGG : Hid (w12.heap[gG]? = some (CO (.slice aG nS cpG))) := blk_later hx HGG.out
  replace HGW : Hid (w12.heap[w2.heap.size]? = some (CO (.slice aS nS cpS))) := blk_later hx HGW.out
  replace HBU : Hid (Below w.heap.size w w12) := HBU.out.trans (hx.mono HBU.out.size)
  replace HSU : Hid (Below w2.heap.size w2 w12) := HSU.out.trans (hx.mono HSU.out.size)
  have HID : Hid _ := idec_any w11.heap.size 0 n n l w12 (rowG_by hR) (RowG.lt hR) HL.out (Nat.le_refl _) HMX.out (HLY.out.later HBU.out)
  clear hx hR
  go_wp2_with fail
  refine Calls.mono HID.out ?_
  rintro e w13 ⟨⟨sv2, xs2, rfl, hO, hD⟩, hx⟩
  have hdd : xsS.map FC.d = xs2.map FC.d := HDS.out.uniq hD
  have hlen : xs2.length = nS := by have h := congrArg List.length hdd; simp only [List.length_map] at h; rw [HNS.out] at h; exact h.symm
  obtain ⟨aH, cpH, hsv, hAH⟩ := hO.at_
  rw [hlen] at hsv
  subst hsv
  replace HM : Hid (Mkd w13 aG xs) := HM.out.later hx
  replace HGG : Hid (w13.heap[gG]? = some (CO (.slice aG nS cpG))) := blk_later hx HGG.out
  replace HGW : Hid (w13.heap[w2.heap.size]? = some (CO (.slice aS nS cpS))) := blk_later hx HGW.out
  replace HBU : Hid (Below w.heap.size w w13) := HBU.out.trans (hx.mono HBU.out.size)
  replace HSU : Hid (Below w2.heap.size w2 w13) := HSU.out.trans (hx.mono HSU.out.size)
  obtain ⟨U2, hU2⟩ : ∃ U2, U2 = w13.alloc (.cells #[.slice aH nS cpH] 29) := ⟨_, rfl⟩
  have hU1 : Below w13.heap.size w13 U2 := by rw [hU2]; exact bw1 _ _
  have HE2 : Hid (Calls _ _ _ _ _) := eqc_any aH aS cpH cpS nS xs2 xsS U2 hlen (hAH.later hU1) (HCS.out.later (HSU.out.trans (hU1.mono HSU.out.size))) hdd
  replace HM : Hid (Mkd U2 aG xs) := HM.out.later hU1
  replace HGG : Hid (U2.heap[gG]? = some (CO (.slice aG nS cpG))) := blk_later hU1 HGG.out
  replace HBU : Hid (Below w.heap.size w U2) := HBU.out.trans (hU1.mono HBU.out.size)
  have c3 : (w13.alloc (.cells #[.slice aH nS cpH] 29)).cell? ⟨w2.heap.size, 0, none⟩ = some (.slice aS nS cpS) := by
    rw [← hU2, blk_cell (blk_later hU1 HGW.out)]
    rfl
  have HU2 : Hid (U2 = w13.alloc (.cells #[.slice aH nS cpH] 29)) := hU2
  clear hO hD hdd hlen hAH hx hU1 hU2 HID HGW HSU
  go_wp2_with fail
  rw [← HU2.out]
  clear HU2 c3
  refine Calls.mono (show Calls _ _ _ _ _ from HE2.out) ?_
  rintro e w14 ⟨rfl, hx⟩
  replace HM : Hid (Mkd w14 aG xs) := HM.out.later hx
  replace HGG : Hid (w14.heap[gG]? = some (CO (.slice aG nS cpG))) := blk_later hx HGG.out
  replace HBU : Hid (Below w.heap.size w w14) := HBU.out.trans (hx.mono HBU.out.size)
  clear hx HE2
  have c5 : w14.cell? ⟨gG, 0, none⟩ = some (.slice aG nS cpG) := (blk_cell HGG.out 0).trans rfl
  go_wp2_with fail
  refine (HHD.out _ HM.out).mono ?_
  rintro e w15 ⟨rfl, hx⟩
  replace HBU : Hid (Below w.heap.size w w15) := HBU.out.trans (hx.mono HBU.out.size)
  clear hx c5
  go_wp2_with fail
  go_ret
  exact ⟨rfl, HBU.out⟩
end Go.Proofs.YtfkeklndcjkgcaaGreatDoor.lawDecode
