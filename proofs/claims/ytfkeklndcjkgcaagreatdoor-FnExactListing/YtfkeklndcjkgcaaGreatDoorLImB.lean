/-
  OWN WORK. The program's Listing.
-/
import Derived.Test.YtfkeklndcjkgcaaGreatDoorLImA
import Derived.Test.YtfkeklndcjkgcaaGreatDoorCiE
namespace Go.Proofs.YtfkeklndcjkgcaaGreatDoor
open Go.RowKit
attribute [local go_sem] run_store_float
set_option linter.unusedVariables false
set_option linter.unusedSimpArgs false

theorem Bld.later {B b : Nat} {bs : List Value} {w w' : World} (hb : Below w.heap.size w w') (h : Bld B b bs w) : Bld B b bs w' := by
  rcases h with ⟨h1, v, h2, h3, h4⟩ | ⟨h1, v, h2, h3, h4⟩
  · exact .inl ⟨h1, v, blk_later hb h2, owns_later hb h3, h4⟩
  · exact .inr ⟨h1, v, blk_later hb h2, owns_later hb h3, h4⟩

set_option maxRecDepth 20000 in
set_option maxHeartbeats 8000000 in
theorem ilist_any (a : Option Addr) (len cap : Nat) (xs : List FC) (w : World) (H0 : CodeAt w a xs) (hl : xs.length = len) (hlay : LayAt w) (hT0 : TenAt w) (hN0 : NamesAt w) :
    Calls Tryz.prog 9 #[.agg #[.slice a len cap]] w fun e w' => e = .returned (.string (sOf (listV (xs.map FC.d)))) ∧ Below w.heap.size w w' := by
  have hlen : len ≤ 1048576 := by rw [← hl]; exact H0.len
  have H : Hid (CodeAt w a xs) := H0
  have HL : Hid (xs.length = len) := hl
  have HLY : Hid (LayAt w) := hlay
  have HT0 : Hid (TenAt w) := hT0
  have HN0 : Hid (NamesAt w) := hN0
  obtain ⟨cs, hcs⟩ : ∃ cs, cs = xs.map FC.d := ⟨_, rfl⟩
  have HM : Hid (cs = xs.map FC.d) := hcs
  rw [← hcs]
  clear H0 hl hcs hlay hT0 hN0
  go_enter Tryz.func9, Tryz.ntmps9
  go_wp2_with fail
  refine (ishape_any a len cap xs _ (H.out.later (bw1 _ _)) HL.out (HLY.out.later (bw1 _ _))).mono ?_
  rw [← HM.out]
  rintro e w1 ⟨rfl, hx⟩
  have B0 : Hid (w1.heap[w.heap.size]? = some (CO (.slice a len cap))) := blk_later hx (blk_new _ _)
  have hB : Below w.heap.size w w1 := (bw1 _ _).trans (hx.mono (by simp))
  clear hx
  obtain ⟨⟨pc, pp, pi⟩, hpv⟩ : ∃ t, t = shapeV cs := ⟨_, rfl⟩
  rw [← hpv]
  by_cases hp0 : pc = 0
  · subst hp0
    obtain ⟨rfl, rfl, h0⟩ := shape_code0 hpv.symm
    have HV : Hid (listV cs = codeL cs 0) := by show listV cs = _; unfold listV; rw [if_pos hpv.symm]
    rw [HM.out] at h0
    have hsm := small_of H.out h0
    rw [← HM.out] at hsm
    have HS : Hid (∀ f ∈ cs, ∀ n ∈ f.ins, InsSmall n) := hsm.1
    have HN : Hid ((codeL cs 0).length ≤ 80000000) := hsm.2
    clear hpv h0 hsm
    rw [show EV (optF (0, 0, 0)) = .nilIface from rfl]
    obtain ⟨wb, hwb⟩ : ∃ wb, wb = w1.heap.size := ⟨_, rfl⟩
    have hwl : w.heap.size ≤ wb := by rw [hwb]; exact hB.size
    obtain ⟨w2, hw2, hy, hbk, hs2⟩ := newblk w1 (.cells #[.pointer none, .slice none 0 0] 63)
    have HB2 : Hid (Bld wb wb (Lib.byteCells []) w2) := by
      show Bld _ _ _ _
      rw [hw2, hwb]
      exact Lib.fresh_isBuilder _ _ w1
    have a0 : w2.cell? ⟨w.heap.size, 0, none⟩ = some (.slice a len cap) := by rw [blk_cell (blk_later hy B0.out)]; rfl
    have hB1 := hB.trans (hy.mono hB.size)
    have hw2s : wb ≤ w2.heap.size := by rw [hs2, hwb]; omega
    rw [hw2] at a0
    go_wp2_with fail
    rw [← hw2, ← hwb]
    clear a0 hy hB B0 hw2 hbk hs2 hwb
    go_loopw [14] (fun i wr => ∃ (m : Nat) (l : List UInt8), m ≤ len ∧ i = .int .i64 m ∧ wb ≤ wr.heap.size ∧ Hid (Bld wb wb (Lib.byteCells l) wr) ∧ Hid (l ++ codeL ((xs.drop m).map FC.d) m = codeL cs 0) ∧ Below w.heap.size w wr) (fun i _ => len - (intOf i).toNat)
    case atStart => exact ⟨0, [], Nat.zero_le _, rfl, hw2s, HB2, by show [] ++ codeL ((xs.drop 0).map FC.d) 0 = _; rw [List.drop_zero, ← HM.out]; rfl, hB1⟩
    case round =>
      clear hB1 HB2 hw2s
      obtain ⟨m, l, hm, rfl, hws, HR, HE, hB⟩ := hrel
      by_cases k1 : m < len
      · obtain ⟨f, hf⟩ : ∃ f, xs[m]? = some f := ⟨xs[m]'(by rw [HL.out]; exact k1), by simp⟩
        obtain ⟨b, off, rfl, hb, hc⟩ := H.out.nine hf
        have hok := H.out.ok f (List.mem_of_getElem? hf)
        have HLI : Hid (f.lie w) := H.out.lie f (List.mem_of_getElem? hf)
        have HS1 : Hid (∀ n ∈ f.d.ins, InsSmall n) := HS.out f.d (by rw [HM.out]; exact List.mem_map.2 ⟨f, List.mem_of_getElem? hf, rfl⟩)
        have HE1 : Hid (l ++ (insL m f.d.ins 0 ++ codeL ((xs.drop (m + 1)).map FC.d) (m + 1)) = codeL cs 0) := by have h := HE.out; rw [codeL_drop hf] at h; exact h
        clear HE hf hb
        obtain ⟨d, au, cu, ac, cc, ai, ci, an, cn⟩ := f
        obtain ⟨c0, c1, c2, c3, c4, c5, c6, c7, c8⟩ := hc.later hB
        simp only at c0 c1 c2 c3 c4 c5 c6 c7 c8 hok HE1 HS1
        have HLX : Hid (SlA w 5 ID.cells ai d.ins) := HLI.out.i
        have hlx : d.ins.length ≤ 1048576 := hok.li
        clear HLI hok hc
        obtain ⟨li, hli⟩ : ∃ li, li = d.ins.length := ⟨_, rfl⟩
        have HLL : Hid (d.ins.length = li) := hli.symm
        rw [← hli] at c7 hlx
        clear hli
        go_wp2_with fail
        have hyF := bw1 wr (.cells #[.string d.name, .int .i64 d.line, .int .i64 d.params, .bool d.rest, .int .i64 d.regs, .slice au d.ups.length cu, .slice ac d.consts.length cc, .slice ai li ci, .slice an d.named.length cn] 50)
        have hBF := hB.trans (hyF.mono hB.size)
        have HRF : Hid (Bld wb wb (Lib.byteCells l) _) := HR.out.later hyF
        have hwF := Nat.le_trans hws hyF.size
        clear c0 c1 c2 c3 c4 c5 c6 c7 c8 hyF HR hB hws
        go_loopw [22] (fun i wr => ∃ (q : Nat) (l : List UInt8), q ≤ li ∧ i = .int .i64 q ∧ wb ≤ wr.heap.size ∧ Hid (Bld wb wb (Lib.byteCells l) wr) ∧ Hid (l ++ (insL m (d.ins.drop q) q ++ codeL ((xs.drop (m + 1)).map FC.d) (m + 1)) = codeL cs 0) ∧ Below w.heap.size w wr) (fun i _ => li - (intOf i).toNat)
        case atStart => exact ⟨0, l, Nat.zero_le _, rfl, hwF, HRF, by show l ++ (insL m (d.ins.drop 0) 0 ++ _) = _; rw [List.drop_zero]; exact HE1.out, hBF⟩
        case round =>
          clear hBF HRF HE1 hwF
          obtain ⟨q, l, hq, rfl, hws, HR, HE, hB⟩ := hrel
          by_cases k2 : q < li
          · obtain ⟨n, hn⟩ : ∃ n, d.ins[q]? = some n := ⟨d.ins[q]'(by rw [HLL.out]; exact k2), by simp⟩
            obtain ⟨bi, oi, rfl, _, hci⟩ := HLX.out q n hn
            have hns := HS1.out n (List.mem_of_getElem? hn)
            have HNS : Hid (InsSmall n) := hns
            have HE2 : Hid (l ++ (lineL m q n ++ [10]) ++ (insL m (d.ins.drop (q + 1)) (q + 1) ++ codeL ((xs.drop (m + 1)).map FC.d) (m + 1)) = codeL cs 0) := by have h := HE.out; rw [insL_drop hn] at h; show _ = _; simpa [List.append_assoc] using h
            have hll : l.length ≤ 80000000 := by
              have h1 := HN.out
              rw [← HE2.out, List.append_assoc, List.length_append] at h1
              omega
            have hlt : (lineL m q n ++ [10]).length ≤ 71 := by
              have := line_le m q n (by omega) (by omega) hns
              simp; omega
            have d0 : wr.cell? ⟨bi, oi + q * 5, none⟩ = some (.int .i64 n.op) := cell_later hB (hci 0 _ rfl)
            have d1 : wr.cell? ⟨bi, oi + q * 5 + 1, none⟩ = some (.int .i64 n.a) := cell_later hB (hci 1 _ rfl)
            have d2 : wr.cell? ⟨bi, oi + q * 5 + 2, none⟩ = some (.int .i64 n.b) := cell_later hB (hci 2 _ rfl)
            have d3 : wr.cell? ⟨bi, oi + q * 5 + 3, none⟩ = some (.int .i64 n.c) := cell_later hB (hci 3 _ rfl)
            have d4 : wr.cell? ⟨bi, oi + q * 5 + 4, none⟩ = some (.int .i64 n.d) := cell_later hB (hci 4 _ rfl)
            have hy := bw1 wr (.cells #[.int .i64 n.op, .int .i64 n.a, .int .i64 n.b, .int .i64 n.c, .int .i64 n.d] 52)
            have hB2 := hB.trans (hy.mono hB.size)
            have HR2 : Hid (Bld wb wb (Lib.byteCells l) _) := HR.out.later hy
            have hws2 := Nat.le_trans hws hy.size
            clear hn hci HE hns
            go_wp2_with fail
            refine (line_any m q n _ (by omega) (by omega) HNS.out (HT0.out.later hB2) (HN0.out.later hB2)).mono ?_
            rintro e w5 ⟨rfl, hx⟩
            have hB5 := hB2.trans (hx.mono hB2.size)
            have HR5 : Hid (Bld wb wb (Lib.byteCells l) w5) := HR2.out.later hx
            have hws5 := Nat.le_trans hws2 hx.size
            clear hx hy hB2 HR2 hws2 hws hB HR d0 d1 d2 d3 d4
            go_wp2_with fail
            refine (write_any wb wb (Lib.byteCells l) (sOf (lineL m q n ++ [10])) _ HR5.out (by rw [Lib.byteCells_length, sOf_size]; omega) hws5).mono ?_
            rintro e w6 ⟨rfl, hbl, hx⟩
            have hB6 := hB5.trans (hx.mono hwl)
            have HR6 : Hid (Bld wb wb (Lib.byteCells (l ++ (lineL m q n ++ [10]))) w6) := by show Bld _ _ _ _; rw [bc_app]; exact hbl
            have hws6 := Nat.le_trans hws5 hx.size
            clear hx hbl HR5 hB5 hws5
            go_wp2_with fail
            go_roundw
            case rel => exact ⟨q + 1, _, by omega, by go_num, hws6, HR6, HE2, hB6⟩
            case measure => simp [intOf]; omega
          · have HE3 : Hid (l ++ codeL ((xs.drop (m + 1)).map FC.d) (m + 1) = codeL cs 0) := by
              have h := HE.out
              rw [List.drop_of_length_le (by rw [HLL.out]; omega)] at h
              exact h
            go_wp2_with fail
            go_roundw
            case rel => exact ⟨m + 1, l, by omega, by go_num, hws, HR, HE3, hB⟩
            case measure => simp [intOf]; omega
      · have HE3 : Hid (l = codeL cs 0) := by
          have h := HE.out
          rw [List.drop_of_length_le (by rw [HL.out]; omega)] at h
          show _ = _
          simpa [codeL] using h
        clear HE
        go_wp2_with fail
        refine (Builder_String_any wb wb l _ HR.out hws).mono ?_
        rintro e w6 ⟨rfl, hx⟩
        have hB6 := hB.trans (hx.mono hwl)
        go_wp2_with fail
        go_ret
        exact ⟨by rw [HV.out, ← HE3.out]; rfl, hB6⟩
  · have HV : Hid (listV cs = []) := by
      show listV cs = []
      unfold listV
      rw [if_neg (by rw [← hpv]; intro h; simp at h; exact hp0 h.1)]
    rw [show EV (optF (pc, pp, pi)) = .iface 142 (FV pc pp pi) from by unfold optF; rw [if_neg hp0]; rfl]
    go_wp2_with fail
    go_ret
    exact ⟨by rw [HV.out]; rfl, hB⟩
end Go.Proofs.YtfkeklndcjkgcaaGreatDoor
