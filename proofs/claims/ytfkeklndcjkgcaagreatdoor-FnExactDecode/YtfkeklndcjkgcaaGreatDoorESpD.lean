/-
  OWN WORK. The specification's images: protos. (Written by tools/genespd.py.)
-/
import Derived.Test.YtfkeklndcjkgcaaGreatDoorEsC
import Derived.Test.YtfkeklndcjkgcaaGreatDoorCsP
namespace Go.Proofs.YtfkeklndcjkgcaaGreatDoor
open Go.RowKit
attribute [local go_sem] run_store_float
set_option linter.unusedVariables false
set_option linter.unusedSimpArgs false

/-- What was there before is still there. -/
theorem Kp.old {B : Nat} {w0 w w' : World} (h : Kp B none w w') (hB : w0.heap.size ≤ B) (hb : Below w0.heap.size w0 w) : Below w0.heap.size w0 w' :=
  hb.trans (h.below hB hb.size)
theorem step_len {li rest tot : List UInt8} {k : Nat} (h : li ++ rest = tot) (ht : tot.length ≤ k) : li.length ≤ k := by
  rw [← h, List.length_append] at ht; omega
theorem step_on {li a rest tot : List UInt8} (h : li ++ (a ++ rest) = tot) : (li ++ a) ++ rest = tot := by rw [List.append_assoc]; exact h
theorem step_off {li rest tot : List UInt8} (h : li ++ ([] ++ rest) = tot) : li ++ rest = tot := h

theorem proto_parts (l : List UInt8) (d : FD) : l ++ (textL d.name ++ (numL d.line ++ (numL d.params ++ (flagL d.rest ++ (numL d.regs ++ (numL (d.ups.length : Int) ++ (d.ups.flatMap upL ++ (numL (d.consts.length : Int) ++ (d.consts.flatMap constL ++ (numL (d.ins.length : Int) ++ (d.ins.flatMap stepL ++ (numL (d.named.length : Int) ++ (d.named.flatMap namedL ++ []))))))))))))) = l ++ protoL d := by
  simp [protoL, headE, listL, List.append_assoc]

abbrev POn (d : FD) (su sc si sn : Value) : Obj := .cells #[.string d.name, .int .i64 d.line, .int .i64 d.params, .bool d.rest, .int .i64 d.regs, su, sc, si, sn] 50

def flds4 (n : ID) : List Int := [n.a, n.b, n.c, n.d]
theorem step_flds (n : ID) : stepL n = numL n.op ++ (flds4 n).flatMap numL := by simp [stepL, flds4]

theorem part_up {l R T : List UInt8} {u : UD} (h : l ++ (upL u ++ R) = T) : l ++ (flagL u.l ++ (numL u.i ++ R)) = T := by rw [← h, upL, List.append_assoc]
theorem part_step {l R T : List UInt8} {u : ID} (h : l ++ (stepL u ++ R) = T) : l ++ (numL u.op ++ ((flds4 u).flatMap numL ++ R)) = T := by rw [← h, step_flds, List.append_assoc]
theorem part_named {l R T : List UInt8} {u : ND} (h : l ++ (namedL u ++ R) = T) : l ++ (textL u.s ++ (numL u.reg ++ (numL u.fr ++ (numL u.to ++ R)))) = T := by rw [← h, namedL]; simp only [List.append_assoc]

set_option maxRecDepth 20000 in
set_option maxHeartbeats 16000000 in
theorem sproto_any (B : Nat) (sv : Value) (l : List UInt8) (x : FC) (w0 w : World) (h : BRow w B sv l) (hlen : l.length ≤ 1000000) (hb : B ≤ w.heap.size) (hx : FSm x.d) (hl : x.lie w0) (hB0 : w0.heap.size ≤ B) (hb0 : Below w0.heap.size w0 w) :
    Calls Tryz.prog 33 #[sv, PV x] w fun e w' => (∃ sv', e = .returned sv' ∧ BRow w' B sv' (l ++ protoL x.d)) ∧ Kp B none w w' := by
  have hpl := protoL_le hx
  obtain ⟨T, hT⟩ : ∃ T, T = l ++ protoL x.d := ⟨_, rfl⟩
  have HT : Hid (T.length ≤ 4000000) := by show T.length ≤ _; rw [hT, List.length_append]; omega
  have HE0 : Hid (l ++ (textL x.d.name ++ (numL x.d.line ++ (numL x.d.params ++ (flagL x.d.rest ++ (numL x.d.regs ++ (numL (x.d.ups.length : Int) ++ (x.d.ups.flatMap upL ++ (numL (x.d.consts.length : Int) ++ (x.d.consts.flatMap constL ++ (numL (x.d.ins.length : Int) ++ (x.d.ins.flatMap stepL ++ (numL (x.d.named.length : Int) ++ (x.d.named.flatMap namedL ++ []))))))))))))) = T) := by show _ = _; rw [hT]; exact proto_parts l x.d
  rw [← hT]
  have HF : Hid (FSm x.d) := hx
  have HLU : Hid (SlA w0 2 UD.cells x.au x.d.ups) := hl.u
  have HLC : Hid (SlA w0 5 VD.cells x.ac x.d.consts) := hl.c
  have HLI : Hid (SlA w0 5 ID.cells x.ai x.d.ins) := hl.i
  have HLN : Hid (SlA w0 4 ND.cells x.an x.d.named) := hl.n
  have n0 : x.d.name.size ≤ 1000000000 := by have := hx.name; omega
  obtain ⟨d, au, cu, ac, cc, ai, ci, an, cn⟩ := x
  dsimp only at n0 HE0 HF HLU HLC HLI HLN
  obtain ⟨nu, hnu⟩ : ∃ nu, nu = d.ups.length := ⟨_, rfl⟩
  obtain ⟨nc, hnc⟩ : ∃ nc, nc = d.consts.length := ⟨_, rfl⟩
  obtain ⟨ni, hni⟩ : ∃ ni, ni = d.ins.length := ⟨_, rfl⟩
  obtain ⟨nn, hnn⟩ : ∃ nn, nn = d.named.length := ⟨_, rfl⟩
  have HNU : Hid (d.ups.length = nu) := hnu.symm
  have HNC : Hid (d.consts.length = nc) := hnc.symm
  have HNI : Hid (d.ins.length = ni) := hni.symm
  have HNN : Hid (d.named.length = nn) := hnn.symm
  have bu : nu ≤ 250 := by rw [hnu]; exact hx.lu
  have bc : nc ≤ 500 := by rw [hnc]; exact hx.lc
  have bi : ni ≤ 6000 := by rw [hni]; exact hx.li
  have bn : nn ≤ 500 := by rw [hnn]; exact hx.ln
  dsimp only [PV]
  rw [← hnu, ← hnc, ← hni, ← hnn] at HE0 ⊢
  have hy := bw1 w (POn d (.slice au nu cu) (.slice ac nc cc) (.slice ai ni ci) (.slice an nn cn))
  have HR0 : Hid (BRow _ B sv l) := h.later hy
  have HK0 : Hid (Kp B none w _) := Kp.of_below hy
  have BX0 : Hid (_ = some (POn d (.slice au nu cu) (.slice ac nc cc) (.slice ai ni ci) (.slice an nn cn))) := blk_new w _
  clear h hx hl hpl hT hnu hnc hni hnn hy
  go_enter Tryz.func33, Tryz.ntmps33
  go_wp2_with fail
  refine (stext_any B _ _ d.name _ HR0.out (by have := step_len HE0.out HT.out; omega) (by omega) (Nat.le_trans hb HK0.out.size)).mono ?_
  rintro e w1 ⟨⟨sv1, rfl, hr⟩, hk⟩
  have HR1 : Hid (BRow w1 B sv1 _) := hr
  have HK1 : Hid (Kp B none w w1) := HK0.out.trans hk
  have BX1 : Hid (w1.heap[w.heap.size]? = some _) := hk.blk BX0.out (by decide) (by simp)
  have HE1 : Hid _ := step_on HE0.out
  clear hr hk HR0 HK0 BX0 HE0
  have c1 : w1.cell? ⟨w.heap.size, 1, none⟩ = some (.int .i64 d.line) := (blk_cell BX1.out 1).trans rfl
  go_wp2_with fail
  refine (snum_any B _ _ d.line _ HR1.out (by have := step_len HE1.out HT.out; omega) (Nat.le_trans hb HK1.out.size)).mono ?_
  rintro e w2 ⟨⟨sv2, rfl, hr⟩, hk⟩
  have HR2 : Hid (BRow w2 B sv2 _) := hr
  have HK2 : Hid (Kp B none w w2) := HK1.out.trans hk
  have BX2 : Hid (w2.heap[w.heap.size]? = some _) := hk.blk BX1.out (by decide) (by simp)
  have HE2 : Hid _ := step_on HE1.out
  clear hr hk HR1 HK1 BX1 HE1 c1
  have c2 : w2.cell? ⟨w.heap.size, 2, none⟩ = some (.int .i64 d.params) := (blk_cell BX2.out 2).trans rfl
  go_wp2_with fail
  refine (snum_any B _ _ d.params _ HR2.out (by have := step_len HE2.out HT.out; omega) (Nat.le_trans hb HK2.out.size)).mono ?_
  rintro e w3 ⟨⟨sv3, rfl, hr⟩, hk⟩
  have HR3 : Hid (BRow w3 B sv3 _) := hr
  have HK3 : Hid (Kp B none w w3) := HK2.out.trans hk
  have BX3 : Hid (w3.heap[w.heap.size]? = some _) := hk.blk BX2.out (by decide) (by simp)
  have HE3 : Hid _ := step_on HE2.out
  clear hr hk HR2 HK2 BX2 HE2 c2
  have c3 : w3.cell? ⟨w.heap.size, 3, none⟩ = some (.bool d.rest) := (blk_cell BX3.out 3).trans rfl
  go_wp2_with fail
  refine (sflag_any B _ _ d.rest _ HR3.out (by have := step_len HE3.out HT.out; omega) (Nat.le_trans hb HK3.out.size)).mono ?_
  rintro e w4 ⟨⟨sv4, rfl, hr⟩, hk⟩
  have HR4 : Hid (BRow w4 B sv4 _) := hr
  have HK4 : Hid (Kp B none w w4) := HK3.out.trans hk
  have BX4 : Hid (w4.heap[w.heap.size]? = some _) := hk.blk BX3.out (by decide) (by simp)
  have HE4 : Hid _ := step_on HE3.out
  clear hr hk HR3 HK3 BX3 HE3 c3
  have c4 : w4.cell? ⟨w.heap.size, 4, none⟩ = some (.int .i64 d.regs) := (blk_cell BX4.out 4).trans rfl
  go_wp2_with fail
  refine (snum_any B _ _ d.regs _ HR4.out (by have := step_len HE4.out HT.out; omega) (Nat.le_trans hb HK4.out.size)).mono ?_
  rintro e w5 ⟨⟨sv5, rfl, hr⟩, hk⟩
  have HR5 : Hid (BRow w5 B sv5 _) := hr
  have HK5 : Hid (Kp B none w w5) := HK4.out.trans hk
  have BX5 : Hid (w5.heap[w.heap.size]? = some _) := hk.blk BX4.out (by decide) (by simp)
  have HE5 : Hid _ := step_on HE4.out
  clear hr hk HR4 HK4 BX4 HE4 c4
  have c5 : w5.cell? ⟨w.heap.size, 5, none⟩ = some (.slice au nu cu) := (blk_cell BX5.out 5).trans rfl
  go_wp2_with fail
  refine (snum_any B _ _ (nu : Int) _ HR5.out (by have := step_len HE5.out HT.out; omega) (Nat.le_trans hb HK5.out.size)).mono ?_
  rintro e w6 ⟨⟨sv6, rfl, hr⟩, hk⟩
  have HR6 : Hid (BRow w6 B sv6 _) := hr
  have HK6 : Hid (Kp B none w w6) := HK5.out.trans hk
  have BX6 : Hid (w6.heap[w.heap.size]? = some _) := hk.blk BX5.out (by decide) (by simp)
  have HE6 : Hid _ := step_on HE5.out
  clear hr hk HR5 HK5 BX5 HE5 c5
  have c6 : w6.cell? ⟨w.heap.size, 5, none⟩ = some (.slice au nu cu) := (blk_cell BX6.out 5).trans rfl
  go_wp2_with fail
  clear c6
  go_loopw [0, 43] (fun o i wr => ∃ (m : Nat) (sv2 : Value) (l2 : List UInt8), m ≤ nu ∧ i = .int .i64 m ∧ sv2 = o ∧ Hid (BRow wr B sv2 l2) ∧ Hid (l2 ++ ((d.ups.drop m).flatMap upL ++ (numL (nc : Int) ++ (d.consts.flatMap constL ++ (numL (ni : Int) ++ (d.ins.flatMap stepL ++ (numL (nn : Int) ++ (d.named.flatMap namedL ++ []))))))) = T) ∧ Hid (Kp B none w wr) ∧ Hid (wr.heap[w.heap.size]? = some (POn d (.slice au nu cu) (.slice ac nc cc) (.slice ai ni ci) (.slice an nn cn)))) (fun _ i _ => nu - (intOf i).toNat)
  case atStart => exact ⟨0, _, _, Nat.zero_le _, rfl, rfl, HR6, HE6, HK6, BX6⟩
  case round =>
    clear HR6 HE6 HK6 BX6
    obtain ⟨m, sv6, l6, hm, rfl, rfl, HR6, HE6, HK6, BX6⟩ := hrel
    by_cases q : m < nu
    · obtain ⟨u, hu⟩ : ∃ u, d.ups[m]? = some u := ⟨d.ups[m]'(by rw [HNU.out]; exact q), by simp⟩
      obtain ⟨b, off, rfl, _, hc⟩ := HLU.out m u hu
      have hbo := HK6.out.old hB0 hb0
      have e0 : wr.cell? ⟨b, off + m * 2, none⟩ = some (.bool u.l) := cell_later hbo (hc 0 _ rfl)
      have e1 : wr.cell? ⟨b, off + m * 2 + 1, none⟩ = some (.int .i64 u.i) := cell_later hbo (hc 1 _ rfl)
      have HEa : Hid (l6 ++ (upL u ++ ((d.ups.drop (m + 1)).flatMap upL ++ (numL (nc : Int) ++ (d.consts.flatMap constL ++ (numL (ni : Int) ++ (d.ins.flatMap stepL ++ (numL (nn : Int) ++ (d.named.flatMap namedL ++ [])))))))) = T) := by have h := HE6.out; rw [flatMap_drop upL hu, List.append_assoc] at h; exact h
      replace HEa : Hid _ := part_up HEa.out
      obtain ⟨wb, hwb, hy, hbk, _⟩ := newblk wr (.cells #[.bool u.l, .int .i64 u.i] 110)
      obtain ⟨gi, hgi⟩ : ∃ gi, gi = wr.heap.size := ⟨_, rfl⟩
      rw [← hgi] at hbk
      have BU : Hid (wb.heap[gi]? = some _) := hbk
      clear hu hc hbk hbo
      go_wp2_with fail
      rw [← hwb]
      try rw [← hgi]
      have HR7 : Hid (BRow wb B _ _) := HR6.out.later hy
      have HK7 : Hid (Kp B none w wb) := HK6.out.trans (Kp.of_below hy)
      have BX7 : Hid (wb.heap[w.heap.size]? = some _) := blk_later hy BX6.out
      have HE7 : Hid _ := HEa.out
      clear HEa HR6 HK6 BX6 HE6 hy hwb hgi e0 e1
      refine (sflag_any B _ _ u.l _ HR7.out (by have := step_len HE7.out HT.out; omega) (Nat.le_trans hb HK7.out.size)).mono ?_
      rintro e w8 ⟨⟨sv8, rfl, hr⟩, hk⟩
      have HR8 : Hid (BRow w8 B sv8 _) := hr
      have HK8 : Hid (Kp B none w w8) := HK7.out.trans hk
      have BX8 : Hid (w8.heap[w.heap.size]? = some _) := hk.blk BX7.out (by decide) (by simp)
      replace BU : Hid (w8.heap[_]? = some _) := hk.blk BU.out (by decide) (by simp)
      have HE8 : Hid _ := step_on HE7.out
      clear hr hk HR7 HK7 BX7 HE7
      have f1 : w8.cell? ⟨gi, 1, none⟩ = some (.int .i64 u.i) := (blk_cell BU.out 1).trans rfl
      go_wp2_with fail
      refine (snum_any B _ _ u.i _ HR8.out (by have := step_len HE8.out HT.out; omega) (Nat.le_trans hb HK8.out.size)).mono ?_
      rintro e w9 ⟨⟨sv9, rfl, hr⟩, hk⟩
      have HR9 : Hid (BRow w9 B sv9 _) := hr
      have HK9 : Hid (Kp B none w w9) := HK8.out.trans hk
      have BX9 : Hid (w9.heap[w.heap.size]? = some _) := hk.blk BX8.out (by decide) (by simp)
      replace BU : Hid (w9.heap[_]? = some _) := hk.blk BU.out (by decide) (by simp)
      have HE9 : Hid _ := step_on HE8.out
      clear hr hk HR8 HK8 BX8 HE8
      clear f1
      go_wp2_with fail
      go_roundw
      case rel => exact ⟨m + 1, _, _, by omega, by go_num, rfl, HR9, HE9, HK9, BX9⟩
      case measure => simp [intOf]; omega
    · have HEb : Hid (l6 ++ (numL (nc : Int) ++ (d.consts.flatMap constL ++ (numL (ni : Int) ++ (d.ins.flatMap stepL ++ (numL (nn : Int) ++ (d.named.flatMap namedL ++ [])))))) = T) := by have h := HE6.out; rw [fdrop_end (by rw [HNU.out]; omega) upL] at h; exact h
      clear HE6
      have HE6 : Hid _ := HEb.out
      clear HEb
      have c6 : wr.cell? ⟨w.heap.size, 6, none⟩ = some (.slice ac nc cc) := (blk_cell BX6.out 6).trans rfl
      go_wp2_with fail
      refine (snum_any B _ _ (nc : Int) _ HR6.out (by have := step_len HE6.out HT.out; omega) (Nat.le_trans hb HK6.out.size)).mono ?_
      rintro e w7 ⟨⟨sv7, rfl, hr⟩, hk⟩
      have HR7 : Hid (BRow w7 B sv7 _) := hr
      have HK7 : Hid (Kp B none w w7) := HK6.out.trans hk
      have BX7 : Hid (w7.heap[w.heap.size]? = some _) := hk.blk BX6.out (by decide) (by simp)
      have HE7 : Hid _ := step_on HE6.out
      clear hr hk HR6 HK6 BX6 HE6 c6
      have c7 : w7.cell? ⟨w.heap.size, 6, none⟩ = some (.slice ac nc cc) := (blk_cell BX7.out 6).trans rfl
      go_wp2_with fail
      clear c7
      go_loopw [0, 64] (fun o i wr => ∃ (m : Nat) (sv2 : Value) (l2 : List UInt8), m ≤ nc ∧ i = .int .i64 m ∧ sv2 = o ∧ Hid (BRow wr B sv2 l2) ∧ Hid (l2 ++ ((d.consts.drop m).flatMap constL ++ (numL (ni : Int) ++ (d.ins.flatMap stepL ++ (numL (nn : Int) ++ (d.named.flatMap namedL ++ []))))) = T) ∧ Hid (Kp B none w wr) ∧ Hid (wr.heap[w.heap.size]? = some (POn d (.slice au nu cu) (.slice ac nc cc) (.slice ai ni ci) (.slice an nn cn)))) (fun _ i _ => nc - (intOf i).toNat)
      case atStart => exact ⟨0, _, _, Nat.zero_le _, rfl, rfl, HR7, HE7, HK7, BX7⟩
      case round =>
        clear HR7 HE7 HK7 BX7
        obtain ⟨m, sv7, l7, hm, rfl, rfl, HR7, HE7, HK7, BX7⟩ := hrel
        by_cases q : m < nc
        · obtain ⟨u, hu⟩ : ∃ u, d.consts[m]? = some u := ⟨d.consts[m]'(by rw [HNC.out]; exact q), by simp⟩
          obtain ⟨b, off, rfl, _, hc⟩ := HLC.out m u hu
          have hbo := HK7.out.old hB0 hb0
          have e0 : wr.cell? ⟨b, off + m * 5, none⟩ = some (.int .i64 u.k) := cell_later hbo (hc 0 _ rfl)
          have e1 : wr.cell? ⟨b, off + m * 5 + 1, none⟩ = some (.int .i64 u.n) := cell_later hbo (hc 1 _ rfl)
          have e2 : wr.cell? ⟨b, off + m * 5 + 2, none⟩ = some (.float .f64 u.f) := cell_later hbo (hc 2 _ rfl)
          have e3 : wr.cell? ⟨b, off + m * 5 + 3, none⟩ = some (.string u.s) := cell_later hbo (hc 3 _ rfl)
          have e4 : wr.cell? ⟨b, off + m * 5 + 4, none⟩ = some (.int .i64 u.r) := cell_later hbo (hc 4 _ rfl)
          have HEa : Hid (l7 ++ (constL u ++ ((d.consts.drop (m + 1)).flatMap constL ++ (numL (ni : Int) ++ (d.ins.flatMap stepL ++ (numL (nn : Int) ++ (d.named.flatMap namedL ++ [])))))) = T) := by have h := HE7.out; rw [flatMap_drop constL hu, List.append_assoc] at h; exact h
          have hcs := HF.out.c u (List.mem_of_getElem? hu)
          have HCS : Hid (CSm u) := hcs
          clear hcs
          obtain ⟨wb, hwb, hy, hbk, _⟩ := newblk wr (.cells #[.int .i64 u.k, .int .i64 u.n, .float .f64 u.f, .string u.s, .int .i64 u.r] 113)
          obtain ⟨gi, hgi⟩ : ∃ gi, gi = wr.heap.size := ⟨_, rfl⟩
          rw [← hgi] at hbk
          have BU : Hid (wb.heap[gi]? = some _) := hbk
          clear hu hc hbk hbo
          go_wp2_with fail
          rw [← hwb]
          try rw [← hgi]
          have HR8 : Hid (BRow wb B _ _) := HR7.out.later hy
          have HK8 : Hid (Kp B none w wb) := HK7.out.trans (Kp.of_below hy)
          have BX8 : Hid (wb.heap[w.heap.size]? = some _) := blk_later hy BX7.out
          have HE8 : Hid _ := HEa.out
          clear HEa HR7 HK7 BX7 HE7 hy hwb hgi e0 e1 e2 e3 e4
          refine (sconst_any B _ _ u _ HCS.out HR8.out (by have := step_len HE8.out HT.out; omega) (Nat.le_trans hb HK8.out.size)).mono ?_
          rintro e w9 ⟨⟨sv9, rfl, hr⟩, hk⟩
          have HR9 : Hid (BRow w9 B sv9 _) := hr
          have HK9 : Hid (Kp B none w w9) := HK8.out.trans hk
          have BX9 : Hid (w9.heap[w.heap.size]? = some _) := hk.blk BX8.out (by decide) (by simp)
          replace BU : Hid (w9.heap[_]? = some _) := hk.blk BU.out (by decide) (by simp)
          have HE9 : Hid _ := step_on HE8.out
          clear hr hk HR8 HK8 BX8 HE8
          go_wp2_with fail
          go_roundw
          case rel => exact ⟨m + 1, _, _, by omega, by go_num, rfl, HR9, HE9, HK9, BX9⟩
          case measure => simp [intOf]; omega
        · have HEb : Hid (l7 ++ (numL (ni : Int) ++ (d.ins.flatMap stepL ++ (numL (nn : Int) ++ (d.named.flatMap namedL ++ [])))) = T) := by have h := HE7.out; rw [fdrop_end (by rw [HNC.out]; omega) constL] at h; exact h
          clear HE7
          have HE7 : Hid _ := HEb.out
          clear HEb
          have c7 : wr.cell? ⟨w.heap.size, 7, none⟩ = some (.slice ai ni ci) := (blk_cell BX7.out 7).trans rfl
          go_wp2_with fail
          refine (snum_any B _ _ (ni : Int) _ HR7.out (by have := step_len HE7.out HT.out; omega) (Nat.le_trans hb HK7.out.size)).mono ?_
          rintro e w8 ⟨⟨sv8, rfl, hr⟩, hk⟩
          have HR8 : Hid (BRow w8 B sv8 _) := hr
          have HK8 : Hid (Kp B none w w8) := HK7.out.trans hk
          have BX8 : Hid (w8.heap[w.heap.size]? = some _) := hk.blk BX7.out (by decide) (by simp)
          have HE8 : Hid _ := step_on HE7.out
          clear hr hk HR7 HK7 BX7 HE7 c7
          have c8 : w8.cell? ⟨w.heap.size, 7, none⟩ = some (.slice ai ni ci) := (blk_cell BX8.out 7).trans rfl
          go_wp2_with fail
          clear c8
          go_loopw [0, 80] (fun o i wr => ∃ (m : Nat) (sv2 : Value) (l2 : List UInt8), m ≤ ni ∧ i = .int .i64 m ∧ sv2 = o ∧ Hid (BRow wr B sv2 l2) ∧ Hid (l2 ++ ((d.ins.drop m).flatMap stepL ++ (numL (nn : Int) ++ (d.named.flatMap namedL ++ []))) = T) ∧ Hid (Kp B none w wr) ∧ Hid (wr.heap[w.heap.size]? = some (POn d (.slice au nu cu) (.slice ac nc cc) (.slice ai ni ci) (.slice an nn cn)))) (fun _ i _ => ni - (intOf i).toNat)
          case atStart => exact ⟨0, _, _, Nat.zero_le _, rfl, rfl, HR8, HE8, HK8, BX8⟩
          case round =>
            clear HR8 HE8 HK8 BX8
            obtain ⟨m, sv8, l8, hm, rfl, rfl, HR8, HE8, HK8, BX8⟩ := hrel
            by_cases q : m < ni
            · obtain ⟨u, hu⟩ : ∃ u, d.ins[m]? = some u := ⟨d.ins[m]'(by rw [HNI.out]; exact q), by simp⟩
              obtain ⟨b, off, rfl, _, hc⟩ := HLI.out m u hu
              have hbo := HK8.out.old hB0 hb0
              have e0 : wr.cell? ⟨b, off + m * 5, none⟩ = some (.int .i64 u.op) := cell_later hbo (hc 0 _ rfl)
              have e1 : wr.cell? ⟨b, off + m * 5 + 1, none⟩ = some (.int .i64 u.a) := cell_later hbo (hc 1 _ rfl)
              have e2 : wr.cell? ⟨b, off + m * 5 + 2, none⟩ = some (.int .i64 u.b) := cell_later hbo (hc 2 _ rfl)
              have e3 : wr.cell? ⟨b, off + m * 5 + 3, none⟩ = some (.int .i64 u.c) := cell_later hbo (hc 3 _ rfl)
              have e4 : wr.cell? ⟨b, off + m * 5 + 4, none⟩ = some (.int .i64 u.d) := cell_later hbo (hc 4 _ rfl)
              have HEa : Hid (l8 ++ (stepL u ++ ((d.ins.drop (m + 1)).flatMap stepL ++ (numL (nn : Int) ++ (d.named.flatMap namedL ++ [])))) = T) := by have h := HE8.out; rw [flatMap_drop stepL hu, List.append_assoc] at h; exact h
              replace HEa : Hid _ := part_step HEa.out
              obtain ⟨wb, hwb, hy, hbk, _⟩ := newblk wr (.cells #[.int .i64 u.op, .int .i64 u.a, .int .i64 u.b, .int .i64 u.c, .int .i64 u.d] 52)
              obtain ⟨gi, hgi⟩ : ∃ gi, gi = wr.heap.size := ⟨_, rfl⟩
              rw [← hgi] at hbk
              have BU : Hid (wb.heap[gi]? = some _) := hbk
              clear hu hc hbk hbo
              go_wp2_with fail
              rw [← hwb]
              try rw [← hgi]
              have HR9 : Hid (BRow wb B _ _) := HR8.out.later hy
              have HK9 : Hid (Kp B none w wb) := HK8.out.trans (Kp.of_below hy)
              have BX9 : Hid (wb.heap[w.heap.size]? = some _) := blk_later hy BX8.out
              have HE9 : Hid _ := HEa.out
              clear HEa HR8 HK8 BX8 HE8 hy hwb hgi e0 e1 e2 e3 e4
              refine (snum_any B _ _ u.op _ HR9.out (by have := step_len HE9.out HT.out; omega) (Nat.le_trans hb HK9.out.size)).mono ?_
              rintro e w10 ⟨⟨sv10, rfl, hr⟩, hk⟩
              have HR10 : Hid (BRow w10 B sv10 _) := hr
              have HK10 : Hid (Kp B none w w10) := HK9.out.trans hk
              have BX10 : Hid (w10.heap[w.heap.size]? = some _) := hk.blk BX9.out (by decide) (by simp)
              replace BU : Hid (w10.heap[_]? = some _) := hk.blk BU.out (by decide) (by simp)
              have HE10 : Hid _ := step_on HE9.out
              clear hr hk HR9 HK9 BX9 HE9
              have f0 : w10.cell? ⟨gi, 0, none⟩ = some (.int .i64 u.op) := (blk_cell BU.out 0).trans rfl
              have f1 : w10.cell? ⟨gi, 1, none⟩ = some (.int .i64 u.a) := (blk_cell BU.out 1).trans rfl
              have f2 : w10.cell? ⟨gi, 2, none⟩ = some (.int .i64 u.b) := (blk_cell BU.out 2).trans rfl
              have f3 : w10.cell? ⟨gi, 3, none⟩ = some (.int .i64 u.c) := (blk_cell BU.out 3).trans rfl
              have f4 : w10.cell? ⟨gi, 4, none⟩ = some (.int .i64 u.d) := (blk_cell BU.out 4).trans rfl
              go_wp2_with (go_at_call 25; refine (fields_any u _).mono ?_; rintro e wf ⟨rfl, hwf⟩; have HWF : Hid (wf = _) := hwf; clear hwf)
              obtain ⟨g4, hg4⟩ : ∃ g4, g4 = w10.heap.size + 1 := ⟨_, rfl⟩
              rw [← hg4]
              have hy4 : Below w10.heap.size w10 wf := by rw [HWF.out]; exact bw2 _ _ _
              have B4 : Hid (wf.heap[g4]? = some (.cells ((flds4 u).map fun z => Value.int .i64 z).toArray 3)) := by show wf.heap[g4]? = _; rw [HWF.out]; exact blk_newn (by rw [hg4]; simp) _
              have HR11 : Hid (BRow wf B _ _) := HR10.out.later hy4
              have HK11 : Hid (Kp B none w wf) := HK10.out.trans (Kp.of_below hy4)
              have BX11 : Hid (wf.heap[w.heap.size]? = some _) := blk_later hy4 BX10.out
              have HE11 : Hid _ := HE10.out
              clear HR10 HK10 BX10 HE10 hy4 HWF hg4 BU f0 f1 f2 f3 f4
              go_loopw [0, 91] (fun o i wr => ∃ (j : Nat) (sv2 : Value) (l2 : List UInt8), j ≤ 4 ∧ i = .int .i64 j ∧ sv2 = o ∧ Hid (BRow wr B sv2 l2) ∧ Hid (l2 ++ (((flds4 u).drop j).flatMap numL ++ ((d.ins.drop (m + 1)).flatMap stepL ++ (numL (nn : Int) ++ (d.named.flatMap namedL ++ [])))) = T) ∧ Hid (Kp B none w wr) ∧ Hid (wr.heap[w.heap.size]? = some (POn d (.slice au nu cu) (.slice ac nc cc) (.slice (some ⟨b, off, none⟩) ni ci) (.slice an nn cn))) ∧ Hid (wr.heap[g4]? = some (.cells ((flds4 u).map fun z => Value.int .i64 z).toArray 3))) (fun _ i _ => 4 - (intOf i).toNat)
              case atStart => exact ⟨0, _, _, by omega, rfl, rfl, HR11, HE11, HK11, BX11, B4⟩
              case round =>
                clear HR11 HE11 HK11 BX11 B4
                obtain ⟨j, sv11, l11, hj, rfl, rfl, HR11, HE11, HK11, BX11, B4⟩ := hrel
                by_cases q2 : j < 4
                · obtain ⟨z, hz⟩ : ∃ z, (flds4 u)[j]? = some z := ⟨_, List.getElem?_eq_getElem (show j < (flds4 u).length from q2)⟩
                  have f0 : wr.cell? ⟨g4, j, none⟩ = some (.int .i64 z) := (blk_cell B4.out j).trans (by simp [hz])
                  have HEa : Hid (l11 ++ (numL z ++ (((flds4 u).drop (j + 1)).flatMap numL ++ ((d.ins.drop (m + 1)).flatMap stepL ++ (numL (nn : Int) ++ (d.named.flatMap namedL ++ []))))) = T) := by have h := HE11.out; rw [flatMap_drop numL hz, List.append_assoc] at h; exact h
                  clear HE11 hz
                  have HE11 : Hid _ := HEa.out
                  clear HEa
                  go_wp2_with fail
                  refine (snum_any B _ _ z _ HR11.out (by have := step_len HE11.out HT.out; omega) (Nat.le_trans hb HK11.out.size)).mono ?_
                  rintro e w12 ⟨⟨sv12, rfl, hr⟩, hk⟩
                  have HR12 : Hid (BRow w12 B sv12 _) := hr
                  have HK12 : Hid (Kp B none w w12) := HK11.out.trans hk
                  have BX12 : Hid (w12.heap[w.heap.size]? = some _) := hk.blk BX11.out (by decide) (by simp)
                  replace B4 : Hid (w12.heap[_]? = some _) := hk.blk B4.out (by decide) (by simp)
                  have HE12 : Hid _ := step_on HE11.out
                  clear hr hk HR11 HK11 BX11 HE11
                  clear f0
                  go_wp2_with fail
                  go_roundw
                  case rel => exact ⟨j + 1, _, _, by omega, by go_num, rfl, HR12, HE12, HK12, BX12, B4⟩
                  case measure => simp [intOf]; omega
                · have HEb : Hid (l11 ++ ((d.ins.drop (m + 1)).flatMap stepL ++ (numL (nn : Int) ++ (d.named.flatMap namedL ++ []))) = T) := by have h := HE11.out; rw [fdrop_end (by show 4 ≤ j; omega) numL] at h; exact h
                  clear HE11 B4
                  have HE11 : Hid _ := HEb.out
                  clear HEb
                  go_wp2_with fail
                  go_roundw
                  case rel => exact ⟨m + 1, _, _, by omega, by go_num, rfl, HR11, HE11, HK11, BX11⟩
                  case measure => simp [intOf]; omega
            · have HEb : Hid (l8 ++ (numL (nn : Int) ++ (d.named.flatMap namedL ++ [])) = T) := by have h := HE8.out; rw [fdrop_end (by rw [HNI.out]; omega) stepL] at h; exact h
              clear HE8
              have HE8 : Hid _ := HEb.out
              clear HEb
              have c8 : wr.cell? ⟨w.heap.size, 8, none⟩ = some (.slice an nn cn) := (blk_cell BX8.out 8).trans rfl
              go_wp2_with fail
              refine (snum_any B _ _ (nn : Int) _ HR8.out (by have := step_len HE8.out HT.out; omega) (Nat.le_trans hb HK8.out.size)).mono ?_
              rintro e w9 ⟨⟨sv9, rfl, hr⟩, hk⟩
              have HR9 : Hid (BRow w9 B sv9 _) := hr
              have HK9 : Hid (Kp B none w w9) := HK8.out.trans hk
              have BX9 : Hid (w9.heap[w.heap.size]? = some _) := hk.blk BX8.out (by decide) (by simp)
              have HE9 : Hid _ := step_on HE8.out
              clear hr hk HR8 HK8 BX8 HE8 c8
              have c9 : w9.cell? ⟨w.heap.size, 8, none⟩ = some (.slice an nn cn) := (blk_cell BX9.out 8).trans rfl
              go_wp2_with fail
              clear c9
              go_loopw [0, 108] (fun o i wr => ∃ (m : Nat) (sv2 : Value) (l2 : List UInt8), m ≤ nn ∧ i = .int .i64 m ∧ sv2 = o ∧ Hid (BRow wr B sv2 l2) ∧ Hid (l2 ++ ((d.named.drop m).flatMap namedL ++ []) = T) ∧ Hid (Kp B none w wr) ∧ Hid (wr.heap[w.heap.size]? = some (POn d (.slice au nu cu) (.slice ac nc cc) (.slice ai ni ci) (.slice an nn cn)))) (fun _ i _ => nn - (intOf i).toNat)
              case atStart => exact ⟨0, _, _, Nat.zero_le _, rfl, rfl, HR9, HE9, HK9, BX9⟩
              case round =>
                clear HR9 HE9 HK9 BX9
                obtain ⟨m, sv9, l9, hm, rfl, rfl, HR9, HE9, HK9, BX9⟩ := hrel
                by_cases q : m < nn
                · obtain ⟨u, hu⟩ : ∃ u, d.named[m]? = some u := ⟨d.named[m]'(by rw [HNN.out]; exact q), by simp⟩
                  obtain ⟨b, off, rfl, _, hc⟩ := HLN.out m u hu
                  have hbo := HK9.out.old hB0 hb0
                  have e0 : wr.cell? ⟨b, off + m * 4, none⟩ = some (.string u.s) := cell_later hbo (hc 0 _ rfl)
                  have e1 : wr.cell? ⟨b, off + m * 4 + 1, none⟩ = some (.int .i64 u.reg) := cell_later hbo (hc 1 _ rfl)
                  have e2 : wr.cell? ⟨b, off + m * 4 + 2, none⟩ = some (.int .i64 u.fr) := cell_later hbo (hc 2 _ rfl)
                  have e3 : wr.cell? ⟨b, off + m * 4 + 3, none⟩ = some (.int .i64 u.to) := cell_later hbo (hc 3 _ rfl)
                  have HEa : Hid (l9 ++ (namedL u ++ ((d.named.drop (m + 1)).flatMap namedL ++ [])) = T) := by have h := HE9.out; rw [flatMap_drop namedL hu, List.append_assoc] at h; exact h
                  have hs4 : u.s.size ≤ 1000000000 := by have := HF.out.n u (List.mem_of_getElem? hu); omega
                  replace HEa : Hid _ := part_named HEa.out
                  obtain ⟨wb, hwb, hy, hbk, _⟩ := newblk wr (.cells #[.string u.s, .int .i64 u.reg, .int .i64 u.fr, .int .i64 u.to] 116)
                  obtain ⟨gi, hgi⟩ : ∃ gi, gi = wr.heap.size := ⟨_, rfl⟩
                  rw [← hgi] at hbk
                  have BU : Hid (wb.heap[gi]? = some _) := hbk
                  clear hu hc hbk hbo
                  go_wp2_with fail
                  rw [← hwb]
                  try rw [← hgi]
                  have HR10 : Hid (BRow wb B _ _) := HR9.out.later hy
                  have HK10 : Hid (Kp B none w wb) := HK9.out.trans (Kp.of_below hy)
                  have BX10 : Hid (wb.heap[w.heap.size]? = some _) := blk_later hy BX9.out
                  have HE10 : Hid _ := HEa.out
                  clear HEa HR9 HK9 BX9 HE9 hy hwb hgi e0 e1 e2 e3
                  refine (stext_any B _ _ u.s _ HR10.out (by have := step_len HE10.out HT.out; omega) (by omega) (Nat.le_trans hb HK10.out.size)).mono ?_
                  rintro e w11 ⟨⟨sv11, rfl, hr⟩, hk⟩
                  have HR11 : Hid (BRow w11 B sv11 _) := hr
                  have HK11 : Hid (Kp B none w w11) := HK10.out.trans hk
                  have BX11 : Hid (w11.heap[w.heap.size]? = some _) := hk.blk BX10.out (by decide) (by simp)
                  replace BU : Hid (w11.heap[_]? = some _) := hk.blk BU.out (by decide) (by simp)
                  have HE11 : Hid _ := step_on HE10.out
                  clear hr hk HR10 HK10 BX10 HE10
                  have f1 : w11.cell? ⟨gi, 1, none⟩ = some (.int .i64 u.reg) := (blk_cell BU.out 1).trans rfl
                  go_wp2_with fail
                  refine (snum_any B _ _ u.reg _ HR11.out (by have := step_len HE11.out HT.out; omega) (Nat.le_trans hb HK11.out.size)).mono ?_
                  rintro e w12 ⟨⟨sv12, rfl, hr⟩, hk⟩
                  have HR12 : Hid (BRow w12 B sv12 _) := hr
                  have HK12 : Hid (Kp B none w w12) := HK11.out.trans hk
                  have BX12 : Hid (w12.heap[w.heap.size]? = some _) := hk.blk BX11.out (by decide) (by simp)
                  replace BU : Hid (w12.heap[_]? = some _) := hk.blk BU.out (by decide) (by simp)
                  have HE12 : Hid _ := step_on HE11.out
                  clear hr hk HR11 HK11 BX11 HE11
                  clear f1
                  have f2 : w12.cell? ⟨gi, 2, none⟩ = some (.int .i64 u.fr) := (blk_cell BU.out 2).trans rfl
                  go_wp2_with fail
                  refine (snum_any B _ _ u.fr _ HR12.out (by have := step_len HE12.out HT.out; omega) (Nat.le_trans hb HK12.out.size)).mono ?_
                  rintro e w13 ⟨⟨sv13, rfl, hr⟩, hk⟩
                  have HR13 : Hid (BRow w13 B sv13 _) := hr
                  have HK13 : Hid (Kp B none w w13) := HK12.out.trans hk
                  have BX13 : Hid (w13.heap[w.heap.size]? = some _) := hk.blk BX12.out (by decide) (by simp)
                  replace BU : Hid (w13.heap[_]? = some _) := hk.blk BU.out (by decide) (by simp)
                  have HE13 : Hid _ := step_on HE12.out
                  clear hr hk HR12 HK12 BX12 HE12
                  clear f2
                  have f3 : w13.cell? ⟨gi, 3, none⟩ = some (.int .i64 u.to) := (blk_cell BU.out 3).trans rfl
                  go_wp2_with fail
                  refine (snum_any B _ _ u.to _ HR13.out (by have := step_len HE13.out HT.out; omega) (Nat.le_trans hb HK13.out.size)).mono ?_
                  rintro e w14 ⟨⟨sv14, rfl, hr⟩, hk⟩
                  have HR14 : Hid (BRow w14 B sv14 _) := hr
                  have HK14 : Hid (Kp B none w w14) := HK13.out.trans hk
                  have BX14 : Hid (w14.heap[w.heap.size]? = some _) := hk.blk BX13.out (by decide) (by simp)
                  replace BU : Hid (w14.heap[_]? = some _) := hk.blk BU.out (by decide) (by simp)
                  have HE14 : Hid _ := step_on HE13.out
                  clear hr hk HR13 HK13 BX13 HE13
                  clear f3
                  go_wp2_with fail
                  go_roundw
                  case rel => exact ⟨m + 1, _, _, by omega, by go_num, rfl, HR14, HE14, HK14, BX14⟩
                  case measure => simp [intOf]; omega
                · have HEb : Hid (l9 ++ [] = T) := by have h := HE9.out; rw [fdrop_end (by rw [HNN.out]; omega) namedL] at h; exact h
                  clear HE9
                  have HE9 : Hid _ := HEb.out
                  clear HEb
                  go_wp2_with fail
                  go_ret
                  exact ⟨⟨_, rfl, by have h := HE9.out; rw [List.append_nil] at h; rw [← h]; exact HR9.out⟩, HK9.out⟩
end Go.Proofs.YtfkeklndcjkgcaaGreatDoor
