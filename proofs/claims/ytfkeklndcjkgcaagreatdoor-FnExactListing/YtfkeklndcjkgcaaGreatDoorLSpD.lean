/-
  OWN WORK. The specification's Listing: its walk.
-/
import Derived.Test.YtfkeklndcjkgcaaGreatDoorLSpC
namespace Go.Proofs.YtfkeklndcjkgcaaGreatDoor
open Go.RowKit
attribute [local go_sem] run_store_float
set_option linter.unusedVariables false
set_option linter.unusedSimpArgs false

/-- A row of bytes made a string. -/
theorem str_of_row {w : World} {base : Nat} {sv : Value} {l : List UInt8} (h : BRow w base sv l) : (convert 33 9 sv).run Tryz.prog w = .ok (.string (sOf l)) w := by
  rcases h with ⟨hl, ⟨rfl, h0⟩ | ⟨g, cap, cur, rfl, e2, e3, e4, e5⟩⟩
  · have : l = [] := List.length_eq_zero_iff.1 h0
    subst this
    exact run_convert_bytes_nil w 33 5 Tryz.underlying33 Tryz.underlying5 0 0 9 Tryz.underlying9
  · refine (run_convert_bytes_arg w 33 5 Tryz.underlying33 Tryz.underlying5 g 0 l.length cap (l.map fun b => (b.toNat : Int)) (by simp) (fun i hi => ?_) 9 Tryz.underlying9).trans ?_
    · have h := congrArg (fun a => a[i]?) e5.2.2
      simp only [Nat.mul_one, List.getElem?_take, hi, if_true, Lib.byteCells, List.getElem?_map, List.getElem?_eq_getElem hi, Option.map_some, Array.getElem?_toList] at h
      rw [blk_cell e3, Nat.zero_add, h]
      simp [List.getD_eq_getElem?_getD, List.getElem?_eq_getElem hi]
    · have h : List.map ((fun n : Int => UInt8.ofNat n.toNat) ∘ fun b : UInt8 => (b.toNat : Int)) l = l := (List.map_congr_left (fun b _ => by simp)).trans (List.map_id l)
      simp [strOfNums, sOf, h]

set_option maxRecDepth 20000 in
set_option maxHeartbeats 8000000 in
theorem slist_any (a : Option Addr) (len cap : Nat) (xs : List FC) (w : World) (H0 : CodeAt w a xs) (hl : xs.length = len) :
    Calls Tryz.prog 7 #[.agg #[.slice a len cap]] w fun e w' => e = .returned (.string (sOf (listV (xs.map FC.d)))) ∧ Below w.heap.size w w' := by
  have hlen : len ≤ 1048576 := by rw [← hl]; exact H0.len
  have H : Hid (CodeAt w a xs) := H0
  have HL : Hid (xs.length = len) := hl
  obtain ⟨cs, hcs⟩ : ∃ cs, cs = xs.map FC.d := ⟨_, rfl⟩
  have HM : Hid (cs = xs.map FC.d) := hcs
  rw [← hcs]
  clear H0 hl hcs
  go_enter Tryz.func7, Tryz.ntmps7
  go_wp2_with fail
  refine (shape_any a len cap xs _ (H.out.later (bw1 _ _)) HL.out).mono ?_
  rw [← HM.out]
  rintro e w1 ⟨rfl, hx⟩
  have B0 : Hid (w1.heap[w.heap.size]? = some (CO (.slice a len cap))) := blk_later hx (blk_new _ _)
  have hB : Below w.heap.size w w1 := (bw1 _ _).trans (hx.mono (by simp))
  clear hx
  obtain ⟨⟨pc, pp, pi⟩, hpv⟩ : ∃ t, t = shapeV cs := ⟨_, rfl⟩
  rw [← hpv]
  simp only [F3V]
  by_cases hp0 : pc = 0
  · subst hp0
    obtain ⟨rfl, rfl, h0⟩ := shape_code0 hpv.symm
    have HV : Hid (listV cs = codeL cs 0) := by show listV cs = _; unfold listV; rw [if_pos hpv.symm]
    rw [HM.out] at h0
    have hsm := small_of H.out h0
    rw [← HM.out] at hsm
    have HS : Hid (∀ f ∈ cs, ∀ n ∈ f.ins, InsSmall n) := hsm.1
    have HN : Hid ((codeL cs 0).length ≤ 80000000) := hsm.2
    clear hpv h0 hsm
    have hy := bw1 w1 (FO 0 0 0)
    have a0 : (w1.alloc (FO 0 0 0)).cell? ⟨w.heap.size, 0, none⟩ = some (.slice a len cap) := by rw [blk_cell (blk_later hy B0.out)]; rfl
    have hB1 := hB.trans (hy.mono hB.size)
    go_wp2_with fail
    clear a0 hy hB B0
    go_loopw [4, 21] (fun o i wr => ∃ (m : Nat) (sv : Value) (l : List UInt8), m ≤ len ∧ i = .int .i64 m ∧ sv = o ∧ Hid (BRow wr w.heap.size sv l) ∧ Hid (l ++ codeL ((xs.drop m).map FC.d) m = codeL cs 0) ∧ Below w.heap.size w wr) (fun _ i _ => len - (intOf i).toNat)
    case atStart => exact ⟨0, _, [], Nat.zero_le _, rfl, rfl, BRow.nil _ _, by show [] ++ codeL ((xs.drop 0).map FC.d) 0 = _; rw [List.drop_zero, ← HM.out]; rfl, hB1⟩
    case round =>
      clear hB1
      obtain ⟨m, sv, l, hm, rfl, rfl, HR, HE, hB⟩ := hrel
      by_cases k1 : m < len
      · obtain ⟨f, hf⟩ : ∃ f, xs[m]? = some f := ⟨xs[m]'(by rw [HL.out]; exact k1), by simp⟩
        obtain ⟨b, off, rfl, hb, hc⟩ := H.out.nine hf
        have hok := H.out.ok f (List.mem_of_getElem? hf)
        have HLI : Hid (f.lie w) := H.out.lie f (List.mem_of_getElem? hf)
        have HS1 : Hid (∀ n ∈ f.d.ins, InsSmall n) := HS.out f.d (by rw [HM.out]; exact List.mem_map.2 ⟨f, List.mem_of_getElem? hf, rfl⟩)
        have HE1 : Hid (l ++ (insL m f.d.ins 0 ++ codeL ((xs.drop (m + 1)).map FC.d) (m + 1)) = codeL cs 0) := by have h := HE.out; rw [codeL_drop hf] at h; exact h
        clear HE hf hb
        obtain ⟨d, au, cu, ac, cc, ai, ci, an, cn⟩ := f
        obtain ⟨c0, c1, c2, c3, c4, c5, c6, c7, c8⟩ := hc.later hB
        simp only at c0 c1 c2 c3 c4 c5 c6 c7 c8 hok HE1 HS1
        have HLX : Hid (SlA w 5 ID.cells ai d.ins) := HLI.out.i
        have hlx : d.ins.length ≤ 1048576 := hok.li
        clear HLI hok hc
        obtain ⟨li, hli⟩ : ∃ li, li = d.ins.length := ⟨_, rfl⟩
        have HLL : Hid (d.ins.length = li) := hli.symm
        rw [← hli] at c7 hlx
        clear hli
        go_wp2_with fail
        have hyF := bw1 wr (.cells #[.string d.name, .int .i64 d.line, .int .i64 d.params, .bool d.rest, .int .i64 d.regs, .slice au d.ups.length cu, .slice ac d.consts.length cc, .slice ai li ci, .slice an d.named.length cn] 50)
        have hBF := hB.trans (hyF.mono hB.size)
        have HRF : Hid (BRow _ w.heap.size sv l) := HR.out.later hyF
        clear c0 c1 c2 c3 c4 c5 c6 c7 c8 hyF HR hB
        go_loopw [4, 29] (fun o i wr => ∃ (q : Nat) (sv : Value) (l : List UInt8), q ≤ li ∧ i = .int .i64 q ∧ sv = o ∧ Hid (BRow wr w.heap.size sv l) ∧ Hid (l ++ (insL m (d.ins.drop q) q ++ codeL ((xs.drop (m + 1)).map FC.d) (m + 1)) = codeL cs 0) ∧ Below w.heap.size w wr) (fun _ i _ => li - (intOf i).toNat)
        case atStart => exact ⟨0, _, l, Nat.zero_le _, rfl, rfl, HRF, by show l ++ (insL m (d.ins.drop 0) 0 ++ _) = _; rw [List.drop_zero]; exact HE1.out, hBF⟩
        case round =>
          clear hBF HRF HE1
          obtain ⟨q, sv, l, hq, rfl, rfl, HR, HE, hB⟩ := hrel
          by_cases k2 : q < li
          · obtain ⟨n, hn⟩ : ∃ n, d.ins[q]? = some n := ⟨d.ins[q]'(by rw [HLL.out]; exact k2), by simp⟩
            obtain ⟨bi, oi, rfl, _, hci⟩ := HLX.out q n hn
            have hns := HS1.out n (List.mem_of_getElem? hn)
            have HNS : Hid (InsSmall n) := hns
            have HE2 : Hid (l ++ (lineL m q n ++ [10] ++ insL m (d.ins.drop (q + 1)) (q + 1) ++ codeL ((xs.drop (m + 1)).map FC.d) (m + 1)) = codeL cs 0) := by have h := HE.out; rw [insL_drop hn] at h; exact h
            have hll : l.length ≤ 80000000 := by
              have h1 := HN.out
              rw [← HE2.out, List.length_append] at h1
              omega
            have d0 : wr.cell? ⟨bi, oi + q * 5, none⟩ = some (.int .i64 n.op) := cell_later hB (hci 0 _ rfl)
            have d1 : wr.cell? ⟨bi, oi + q * 5 + 1, none⟩ = some (.int .i64 n.a) := cell_later hB (hci 1 _ rfl)
            have d2 : wr.cell? ⟨bi, oi + q * 5 + 2, none⟩ = some (.int .i64 n.b) := cell_later hB (hci 2 _ rfl)
            have d3 : wr.cell? ⟨bi, oi + q * 5 + 3, none⟩ = some (.int .i64 n.c) := cell_later hB (hci 3 _ rfl)
            have d4 : wr.cell? ⟨bi, oi + q * 5 + 4, none⟩ = some (.int .i64 n.d) := cell_later hB (hci 4 _ rfl)
            obtain ⟨S, nm, s1, s2, s3, s4, hsd, hnm, x1, x2, x3, x4, HH, y1, y2, y3, y4⟩ := head_strs m q n.op (by omega) (by omega) hns.o0 hns.o1
            obtain ⟨w2, hw, hy, hbk, _⟩ := newblk wr (.cells #[.int .i64 n.op, .int .i64 n.a, .int .i64 n.b, .int .i64 n.c, .int .i64 n.d] 52)
            obtain ⟨gi, hgi⟩ : ∃ gi, gi = wr.heap.size := ⟨_, rfl⟩
            rw [← hgi] at hbk
            have BI : Hid (w2.heap[gi]? = some (.cells #[.int .i64 n.op, .int .i64 n.a, .int .i64 n.b, .int .i64 n.c, .int .i64 n.d] 52)) := hbk
            clear hn hci HE hns hbk
            go_wp2_with fail
            rw [← hw]
            rw [← hgi]
            have e0 : w2.cell? ⟨gi, 0, none⟩ = some (.int .i64 n.op) := by rw [blk_cell BI.out]; rfl
            have HB2 : Hid (Below w.heap.size w w2) := hB.trans (hy.mono hB.size)
            have HR2 : Hid (BRow w2 w.heap.size sv l) := HR.out.later hy
            clear hw hy hB HR d0 d1 d2 d3 d4 hgi
            have e1 := lat_cell e0
            clear e0
            haveI := lat_some w2
            refine wp_region_lat (by kernel_rfl) (by kernel_rfl) ?_
            repeat (go_big_quiet_step (first | (go_at_call 23; exact lat_calls (hsd _ _ (by omega))) | (go_at_call 24; exact lat_calls (hnm _))))
            refine wpQuiet_nil ?_
            rintro _ ⟨nq, rfl⟩
            obtain ⟨w3, hw3⟩ : ∃ w3, w3 = nq.wd := ⟨_, rfl⟩
            have hx : Below w2.heap.size w2 w3 := by rw [hw3]; exact nq.below
            rw [← hw3]
            have HB3 : Hid (Below w.heap.size w w3) := HB2.out.trans (hx.mono HB2.out.size)
            have HR3 : Hid (BRow w3 w.heap.size sv l) := HR2.out.later hx
            replace BI : Hid _ := blk_later hx BI.out
            clear hw3 nq e1 hx HB2 HR2 hsd hnm x1 x2 x3 x4 y1 y2 y3 y4
            have d0 : w3.cell? ⟨gi, 0, none⟩ = some (.int .i64 n.op) := by rw [blk_cell BI.out]; rfl
            have d1 : w3.cell? ⟨gi, 1, none⟩ = some (.int .i64 n.a) := by rw [blk_cell BI.out]; rfl
            have d2 : w3.cell? ⟨gi, 2, none⟩ = some (.int .i64 n.b) := by rw [blk_cell BI.out]; rfl
            have d3 : w3.cell? ⟨gi, 3, none⟩ = some (.int .i64 n.c) := by rw [blk_cell BI.out]; rfl
            have d4 : w3.cell? ⟨gi, 4, none⟩ = some (.int .i64 n.d) := by rw [blk_cell BI.out]; rfl
            go_wp2_with (go_at_call 25; refine (fields_any n _).mono ?_; rintro e w4 ⟨rfl, hw4⟩; have HW4 : Hid (w4 = (w3.alloc (.cells #[.int .i64 n.op, .int .i64 n.a, .int .i64 n.b, .int .i64 n.c, .int .i64 n.d] 52)).alloc (.cells #[.int .i64 n.a, .int .i64 n.b, .int .i64 n.c, .int .i64 n.d] 3)) := hw4; clear hw4)
            obtain ⟨g4, hg4⟩ : ∃ g4, g4 = w3.heap.size + 1 := ⟨_, rfl⟩
            rw [← hg4]
            have hy4 : Below w3.heap.size w3 w4 := by rw [HW4.out]; exact bw2 _ _ _
            have B4 : Hid (w4.heap[g4]? = some (.cells #[.int .i64 n.a, .int .i64 n.b, .int .i64 n.c, .int .i64 n.d] 3)) := by show w4.heap[g4]? = _; rw [HW4.out]; exact blk_newn (by rw [hg4]; simp) _
            have HB4 : Hid (Below w.heap.size w w4) := HB3.out.trans (hy4.mono HB3.out.size)
            have HR4 : Hid (BRow w4 w.heap.size sv l) := HR3.out.later hy4
            clear d0 d1 d2 d3 d4 HW4 hg4 hy4 HB3 HR3 BI
            rw [HH.out]
            have hhl := headL_le m q n.op (by omega) (by omega)
            go_loopw [9, 48] (fun o i wr => ∃ (k : Nat) (t : List UInt8), k ≤ 4 ∧ i = .int .i64 k ∧ o = .string (sOf t) ∧ Hid (t = headL m q n.op ++ (n.flds.take k).flatMap fieldL) ∧ Below w.heap.size w wr ∧ Hid (wr.heap[g4]? = some (.cells #[.int .i64 n.a, .int .i64 n.b, .int .i64 n.c, .int .i64 n.d] 3)) ∧ Hid (BRow wr w.heap.size sv l)) (fun _ i _ => 4 - (intOf i).toNat)
            case atStart => exact ⟨0, headL m q n.op, by omega, rfl, rfl, by show _ = _; simp, HB4.out, B4, HR4⟩
            case round =>
              clear HB4 B4 HR4 HH
              obtain ⟨k, t, hk, rfl, rfl, HT, hB, B4, HR⟩ := hrel
              have htl : t.length ≤ 100 := by
                have h1 := flat_le HNS.out k
                rw [HT.out, List.length_append]
                omega
              by_cases k3 : k < 4
              · obtain ⟨x, hx1, hx2, hx3, hx4⟩ := fld_small HNS.out k k3
                have f0 : wr.cell? ⟨g4, k, none⟩ = some (.int .i64 x) := by have h := four_cell B4.out k3; rw [← hx2]; exact h
                obtain ⟨t0, t1, s1, hd, z1, z2, HS2, y1, y2⟩ := field_strs t x (by omega) hx3 hx4
                have HT1 : Hid (t ++ fieldL x = headL m q n.op ++ (n.flds.take (k + 1)).flatMap fieldL) := by
                  show _ = _
                  rw [List.take_add_one, hx1, HT.out]; simp
                clear hx1 hx2 hx3 hx4 HT
                go_wp2_with (go_at_call 23; refine (hd _).mono ?_; rintro e w5 ⟨rfl, hx⟩)
                have hB5 := hB.trans (hx.mono hB.size)
                go_roundw
                case rel => exact ⟨k + 1, t ++ fieldL x, by omega, by go_num, by rw [HS2.out], HT1, hB5, blk_later hx B4.out, HR.out.later hx⟩
                case measure => simp [intOf]; omega
              · have hk4 : k = 4 := by omega
                subst hk4
                have HT4 : Hid (t = lineL m q n) := by
                  show _ = _
                  rw [HT.out]; rfl
                have hsz := sOf_size t
                clear HT B4
                go_wp2_with fail
                go_loopw [4, 12] (fun o i wr => ∃ (j : Nat) (sv : Value), j ≤ t.length ∧ i = .int .i64 j ∧ sv = o ∧ Hid (BRow wr w.heap.size sv (l ++ t.take j)) ∧ Below w.heap.size w wr) (fun _ i _ => t.length - (intOf i).toNat)
                case atStart => exact ⟨0, sv, Nat.zero_le _, rfl, rfl, by show BRow _ _ _ (l ++ t.take 0); simpa using HR.out, hB⟩
                case round =>
                  clear HR hB
                  obtain ⟨j, sv, hj, rfl, rfl, HR, hB⟩ := hrel
                  by_cases k4 : j < t.length
                  · have hjs : j < (sOf t).size := by rw [hsz]; exact k4
                    have HBY : Hid (t.take (j + 1) = t.take j ++ [(sOf t)[j]]) := by
                      show _ = _
                      rw [List.take_add_one, List.getElem?_eq_getElem k4]; rfl
                    obtain ⟨sv', w6, hr, ho', hg⟩ := app_byte w.heap.size wr sv (l ++ t.take j) (sOf t)[j] _ rfl 33 HR.out (by rw [List.length_append, List.length_take]; omega) hB.size
                    have HRN : Hid ((Builtin.append_ #[33, 33] 33 #[sv, .slice (some ⟨wr.heap.size, 0, none⟩) 1 1]).run Tryz.prog (wr.alloc (.cells #[.int .u8 ((sOf t)[j].toNat : Int)] 5)) = .ok sv' w6) := hr
                    have hy6 := bw1 wr (.cells #[.int .u8 ((sOf t)[j].toNat : Int)] 5)
                    have hB6 : Below w.heap.size w w6 := BRow.below (hB.trans (hy6.mono hB.size)) (by have := hB.size; simp; omega) (HR.out.later hy6) (Nat.le_refl _) hg
                    have HR6 : Hid (BRow w6 w.heap.size sv' (l ++ t.take (j + 1))) := by show BRow _ _ _ _; rw [HBY.out, ← List.append_assoc]; exact ho'
                    clear hr ho' hg hy6 HBY HR hB
                    go_wp2_with (at_builtin; refine wpList_append_run rfl _ _ _ rfl _ _ _ _ rfl rfl HRN.out ?_)
                    go_roundw
                    case rel => exact ⟨_, _, _, _, _, _, _, _, _, _, _, _, _, _, ⟨j + 1, sv', by omega, by go_num, rfl, HR6, hB6⟩, rfl⟩
                    case measure => simp [intOf]; omega
                  · have hje : j = t.length := by omega
                    have HRE : Hid (BRow wr w.heap.size sv (l ++ lineL m q n)) := by have h := HR.out; rw [hje, List.take_length, HT4.out] at h; exact h
                    obtain ⟨sv', w6, hr, ho', hg⟩ := app_byte w.heap.size wr sv (l ++ lineL m q n) 10 10 rfl 33 HRE.out (by rw [List.length_append, ← HT4.out]; omega) hB.size
                    have HRN : Hid ((Builtin.append_ #[33, 33] 33 #[sv, .slice (some ⟨wr.heap.size, 0, none⟩) 1 1]).run Tryz.prog (wr.alloc (.cells #[.int .u8 10] 5)) = .ok sv' w6) := hr
                    have hy6 := bw1 wr (.cells #[.int .u8 10] 5)
                    have hB6 : Below w.heap.size w w6 := BRow.below (hB.trans (hy6.mono hB.size)) (by have := hB.size; simp; omega) (HRE.out.later hy6) (Nat.le_refl _) hg
                    have HR6 : Hid (BRow w6 w.heap.size sv' (l ++ (lineL m q n ++ [10]))) := by show BRow _ _ _ _; rw [← List.append_assoc]; exact ho'
                    have HE3 : Hid (l ++ (lineL m q n ++ [10]) ++ (insL m (d.ins.drop (q + 1)) (q + 1) ++ codeL ((xs.drop (m + 1)).map FC.d) (m + 1)) = codeL cs 0) := by
                      have h := HE2.out
                      show _ = _
                      simpa [List.append_assoc] using h
                    clear hr ho' hg hy6 HR hB HRE HE2
                    go_wp2_with (at_builtin; refine wpList_append_run rfl _ _ _ rfl _ _ _ _ rfl rfl HRN.out ?_)
                    go_roundw
                    case rel => exact ⟨q + 1, _, _, by omega, by go_num, rfl, HR6, HE3, hB6⟩
                    case measure => simp [intOf]; omega
          · have hql : q = li := by omega
            have HE3 : Hid (l ++ codeL ((xs.drop (m + 1)).map FC.d) (m + 1) = codeL cs 0) := by
              have h := HE.out
              rw [List.drop_of_length_le (by rw [HLL.out]; omega)] at h
              exact h
            go_wp2_with fail
            go_roundw
            case rel => exact ⟨m + 1, _, l, by omega, by go_num, rfl, HR, HE3, hB⟩
            case measure => simp [intOf]; omega
      · have hml : m = len := by omega
        have HE3 : Hid (l = codeL cs 0) := by
          have h := HE.out
          rw [List.drop_of_length_le (by rw [HL.out]; omega)] at h
          show _ = _
          simpa [codeL] using h
        have hcv := str_of_row HR.out
        clear HE
        go_wp2_with fail
        go_ret
        exact ⟨by rw [HV.out, ← HE3.out]; rfl, hB⟩
  · have HV : Hid (listV cs = []) := by
      show listV cs = []
      unfold listV
      rw [if_neg (by rw [← hpv]; intro h; simp at h; exact hp0 h.1)]
    go_wp2_with fail
    go_ret
    exact ⟨by rw [HV.out]; rfl, hB.trans ((bw1 _ _).mono hB.size)⟩
end Go.Proofs.YtfkeklndcjkgcaaGreatDoor
