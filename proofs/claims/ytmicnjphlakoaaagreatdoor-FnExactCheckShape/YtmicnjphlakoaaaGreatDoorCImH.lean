/-
  OWN WORK. The program's shape: checkShape.
-/
import Derived.Test.YtmicnjphlakoaaaGreatDoorCImG
namespace Go.Proofs.YtmicnjphlakoaaaGreatDoor
open Go.RowKit
set_option linter.unusedVariables false
set_option linter.unusedSimpArgs false

theorem opt_parts {c : List FD} {k : Int} {p i : Nat} (hk : k ≠ 0) (h : partsV c = (k, (p : Int), (i : Int))) : optF (shapeV c) = some (k, (p : Int), (i : Int)) := by
  have h0 : ¬ (partsV c).1 = 0 := by rw [h]; exact hk
  rw [shape_parts h0, h]
  unfold optF
  rw [if_neg hk]
theorem opt_fns {c : List FD} (h : partsV c = (0, 0, 0)) : optF (shapeV c) = optF (fnsV c) := by
  unfold shapeV; rw [if_pos (by rw [h])]

set_option maxRecDepth 20000 in
set_option maxHeartbeats 8000000 in
theorem ishape_any (a : Option Addr) (len cap : Nat) (xs : List FC) (w : World) (H0 : CodeAt w a xs) (hl : xs.length = len) (hlay : LayAt w) :
    Calls Tryz.prog 16 #[.agg #[.slice a len cap]] w fun e w' => e = .returned (EV (optF (shapeV (xs.map FC.d)))) ∧ Below w.heap.size w w' := by
  have hlen : len ≤ 1048576 := by rw [← hl]; exact H0.len
  have H : Hid (CodeAt w a xs) := H0
  have HLY : Hid (LayAt w) := hlay
  have HL : Hid (xs.length = len) := hl
  obtain ⟨cs, hcs⟩ : ∃ cs, cs = xs.map FC.d := ⟨_, rfl⟩
  have HM : Hid (cs = xs.map FC.d) := hcs
  have HCL : Hid (cs.length = len) := by show cs.length = len; rw [hcs, List.length_map, hl]
  rw [← hcs]
  clear H0 hl hlay hcs
  by_cases hb : badSize cs
  · have HR : Hid (optF (shapeV cs) = some (1, ((0 : Nat) : Int), ((0 : Nat) : Int))) := opt_parts (by omega) (parts_1 hb)
    go_enter Tryz.func16, Tryz.ntmps16
    go_wp2_with fail
    refine (isize_any a len cap xs _ (H.out.later (bw1 _ _)) HL.out false (by rw [← HM.out]; simpa using hb)).mono ?_
    rintro e w1 ⟨rfl, hx⟩
    have hB : Below w.heap.size w w1 := (bw1 _ _).trans (hx.mono (by simp))
    clear hx
    go_wp2_with (go_at_call 27; refine (fat_any _ _ _ _).mono ?_; rintro e w' ⟨rfl, rfl⟩)
    go_ret
    exact ⟨by rw [HR.out]; rfl, hB⟩
  · go_enter Tryz.func16, Tryz.ntmps16
    go_wp2_with fail
    refine (isize_any a len cap xs _ (H.out.later (bw1 _ _)) HL.out true (by rw [← HM.out]; simpa using hb)).mono ?_
    rintro e w1 ⟨rfl, hx⟩
    have B0 : Hid (w1.heap[w.heap.size]? = some (CO (.slice a len cap))) := blk_later hx (blk_new _ _)
    have hB : Below w.heap.size w w1 := (bw1 _ _).trans (hx.mono (by simp))
    clear hx
    have HB : Hid (¬ badSize cs) := hb
    obtain ⟨gk, hgk⟩ : ∃ gk, gk = w1.heap.size := ⟨_, rfl⟩
    have BKn : Hid ((w1.alloc (.cells #[.func (Fn.func 28) #[] #[], .func (Fn.func 29) #[] #[], .func (Fn.func 30) #[] #[], .func (Fn.func 31) #[] #[]] 77)).heap[gk]? = some (.cells #[.func (Fn.func 28) #[] #[], .func (Fn.func 29) #[] #[], .func (Fn.func 30) #[] #[], .func (Fn.func 31) #[] #[]] 77)) := blk_newn hgk.symm _
    go_wp2_with fail
    rw [← hgk]
    clear hgk hb
    go_loopw [13] (fun i wr => ∃ m : Nat, m ≤ 4 ∧ i = .int .i64 m ∧ Hid ((1 ≤ m → fp hd0 cs 0 = none) ∧ (2 ≤ m → fp co0 cs 0 = none) ∧ (3 ≤ m → fp na0 cs 0 = none) ∧ (4 ≤ m → fp (in0 len) cs 0 = none)) ∧ Below w.heap.size w wr ∧ Hid (wr.heap[w.heap.size]? = some (CO (.slice a len cap))) ∧ Hid (wr.heap[gk]? = some (.cells #[.func (Fn.func 28) #[] #[], .func (Fn.func 29) #[] #[], .func (Fn.func 30) #[] #[], .func (Fn.func 31) #[] #[]] 77))) (fun i _ => 4 - (intOf i).toNat)
    case atStart => exact ⟨0, by omega, rfl, ⟨fun h => absurd h (by omega), fun h => absurd h (by omega), fun h => absurd h (by omega), fun h => absurd h (by omega)⟩, below_alloc hB _, blk_old B0.out _, BKn⟩
    case round =>
      clear hB B0 BKn
      obtain ⟨m, hm, rfl, HF, hB, B0, BK⟩ := hrel
      have a0 : wr.cell? ⟨w.heap.size, 0, none⟩ = some (.slice a len cap) := by rw [blk_cell B0.out]; rfl
      by_cases k1 : m < 4
      · have hmc : m = 0 ∨ m = 1 ∨ m = 2 ∨ m = 3 := by omega
        rcases hmc with rfl | rfl | rfl | rfl
        · have fc : wr.cell? ⟨gk, 0, none⟩ = some (.func (Fn.func 28) #[] #[]) := by rw [blk_cell BK.out]; rfl
          go_wp2_with fail
          clear fc a0
          rw [show (((0 : Nat)) : Int) = 0 from rfl]
          go_loopw [20] (fun i wr => ∃ p : Nat, p ≤ len ∧ i = .int .i64 p ∧ Hid (fp hd0 ((xs.drop p).map FC.d) p = fp hd0 cs 0) ∧ Below w.heap.size w wr ∧ Hid (wr.heap[w.heap.size]? = some (CO (.slice a len cap))) ∧ Hid (wr.heap[gk]? = some (.cells #[.func (Fn.func 28) #[] #[], .func (Fn.func 29) #[] #[], .func (Fn.func 30) #[] #[], .func (Fn.func 31) #[] #[]] 77))) (fun i _ => len - (intOf i).toNat)
          case atStart => exact ⟨0, Nat.zero_le _, rfl, by show fp hd0 ((xs.drop 0).map FC.d) 0 = _; rw [HM.out, List.drop_zero], hB, B0, BK⟩
          case round =>
            clear hB B0 BK
            obtain ⟨p, hp, rfl, HG, hB, B0, BK⟩ := hrel
            by_cases k2 : p < len
            · have a0 : wr.cell? ⟨w.heap.size, 0, none⟩ = some (.slice a len cap) := by rw [blk_cell B0.out]; rfl
              obtain ⟨f, hf⟩ : ∃ f, xs[p]? = some f := ⟨xs[p]'(by rw [HL.out]; exact k2), by simp⟩
              obtain ⟨b, off, rfl, hb, hc⟩ := H.out.nine hf
              have hok := H.out.ok f (List.mem_of_getElem? hf)
              have HLI : Hid (f.lie w) := H.out.lie f (List.mem_of_getElem? hf)
              have HD : Hid ((match hd0 p f.d with | some j => some (p, j) | none => fp hd0 ((xs.drop (p + 1)).map FC.d) (p + 1)) = fp hd0 cs 0) := by have h := HG.out; rw [fp_drop _ hf] at h; exact h
              clear HG hf hb
              cases hh : hd0 p f.d with
              | some i =>
                have HR : Hid (optF (shapeV cs) = some (2, (p : Int), (i : Int))) := opt_parts (by omega) (parts_2 HB.out (by rw [← HD.out, hh]))
                go_wp2_with fail
                refine (ihead_any b off len cap p f _ k2 hlen (hc.later hB) hok).mono ?_
                rw [ckf_some hh, show EV (some ((2 : Int), (p : Int), (i : Int))) = .iface 72 (FV 2 p i) from rfl]
                rintro e w2 ⟨rfl, hx⟩
                replace hB := hB.trans (hx.mono hB.size)
                clear hx a0
                go_wp2_with fail
                go_ret
                exact ⟨by rw [HR.out]; rfl, hB⟩
              | none =>
                have HG1 : Hid (fp hd0 ((xs.drop (p + 1)).map FC.d) (p + 1) = fp hd0 cs 0) := by have h := HD.out; rw [hh] at h; exact h
                go_wp2_with fail
                refine (ihead_any b off len cap p f _ k2 hlen (hc.later hB) hok).mono ?_
                rw [ckf_none hh, show EV none = .nilIface from rfl]
                rintro e w2 ⟨rfl, hx⟩
                replace hB := hB.trans (hx.mono hB.size)
                replace B0 : Hid _ := blk_later hx B0.out
                replace BK : Hid _ := blk_later hx BK.out
                clear hx a0
                go_wp2_with fail
                go_roundw
                case rel => exact ⟨p + 1, by omega, by go_num, HG1, hB, B0, BK⟩
                case measure => simp [intOf]; omega
            · have hn : fp hd0 cs 0 = none := by rw [← HG.out]; exact drop_end (by rw [HL.out]; omega) _
              have HF1 : Hid ((1 ≤ 0 + 1 → fp hd0 cs 0 = none) ∧ (2 ≤ 0 + 1 → fp co0 cs 0 = none) ∧ (3 ≤ 0 + 1 → fp na0 cs 0 = none) ∧ (4 ≤ 0 + 1 → fp (in0 len) cs 0 = none)) := by
                refine ⟨fun h => ?_, fun h => ?_, fun h => ?_, fun h => ?_⟩
                · exact hn
                · exact absurd h (by omega)
                · exact absurd h (by omega)
                · exact absurd h (by omega)
              clear HG HF hn
              go_wp2_with fail
              go_roundw
              case rel => exact ⟨0 + 1, by omega, by go_num, HF1, hB, B0, BK⟩
              case measure => simp [intOf]
        · have fc : wr.cell? ⟨gk, 1, none⟩ = some (.func (Fn.func 29) #[] #[]) := by rw [blk_cell BK.out]; rfl
          go_wp2_with fail
          clear fc a0
          rw [show (((1 : Nat)) : Int) = 1 from rfl]
          go_loopw [20] (fun i wr => ∃ p : Nat, p ≤ len ∧ i = .int .i64 p ∧ Hid (fp co0 ((xs.drop p).map FC.d) p = fp co0 cs 0) ∧ Below w.heap.size w wr ∧ Hid (wr.heap[w.heap.size]? = some (CO (.slice a len cap))) ∧ Hid (wr.heap[gk]? = some (.cells #[.func (Fn.func 28) #[] #[], .func (Fn.func 29) #[] #[], .func (Fn.func 30) #[] #[], .func (Fn.func 31) #[] #[]] 77))) (fun i _ => len - (intOf i).toNat)
          case atStart => exact ⟨0, Nat.zero_le _, rfl, by show fp co0 ((xs.drop 0).map FC.d) 0 = _; rw [HM.out, List.drop_zero], hB, B0, BK⟩
          case round =>
            clear hB B0 BK
            obtain ⟨p, hp, rfl, HG, hB, B0, BK⟩ := hrel
            by_cases k2 : p < len
            · have a0 : wr.cell? ⟨w.heap.size, 0, none⟩ = some (.slice a len cap) := by rw [blk_cell B0.out]; rfl
              obtain ⟨f, hf⟩ : ∃ f, xs[p]? = some f := ⟨xs[p]'(by rw [HL.out]; exact k2), by simp⟩
              obtain ⟨b, off, rfl, hb, hc⟩ := H.out.nine hf
              have hok := H.out.ok f (List.mem_of_getElem? hf)
              have HLI : Hid (f.lie w) := H.out.lie f (List.mem_of_getElem? hf)
              have HD : Hid ((match co0 p f.d with | some j => some (p, j) | none => fp co0 ((xs.drop (p + 1)).map FC.d) (p + 1)) = fp co0 cs 0) := by have h := HG.out; rw [fp_drop _ hf] at h; exact h
              clear HG hf hb
              cases hh : co0 p f.d with
              | some i =>
                have HR : Hid (optF (shapeV cs) = some (3, (p : Int), (i : Int))) := opt_parts (by omega) (parts_3 HB.out (HF.out.1 (by omega)) (by rw [← HD.out, hh]))
                go_wp2_with fail
                refine (ickc_any b off len cap p f _ k2 hlen (hc.later hB) hok (HLI.out.later hB)).mono ?_
                rw [ckf_some hh, show EV (some ((3 : Int), (p : Int), (i : Int))) = .iface 72 (FV 3 p i) from rfl]
                rintro e w2 ⟨rfl, hx⟩
                replace hB := hB.trans (hx.mono hB.size)
                clear hx a0
                go_wp2_with fail
                go_ret
                exact ⟨by rw [HR.out]; rfl, hB⟩
              | none =>
                have HG1 : Hid (fp co0 ((xs.drop (p + 1)).map FC.d) (p + 1) = fp co0 cs 0) := by have h := HD.out; rw [hh] at h; exact h
                go_wp2_with fail
                refine (ickc_any b off len cap p f _ k2 hlen (hc.later hB) hok (HLI.out.later hB)).mono ?_
                rw [ckf_none hh, show EV none = .nilIface from rfl]
                rintro e w2 ⟨rfl, hx⟩
                replace hB := hB.trans (hx.mono hB.size)
                replace B0 : Hid _ := blk_later hx B0.out
                replace BK : Hid _ := blk_later hx BK.out
                clear hx a0
                go_wp2_with fail
                go_roundw
                case rel => exact ⟨p + 1, by omega, by go_num, HG1, hB, B0, BK⟩
                case measure => simp [intOf]; omega
            · have hn : fp co0 cs 0 = none := by rw [← HG.out]; exact drop_end (by rw [HL.out]; omega) _
              have HF1 : Hid ((1 ≤ 1 + 1 → fp hd0 cs 0 = none) ∧ (2 ≤ 1 + 1 → fp co0 cs 0 = none) ∧ (3 ≤ 1 + 1 → fp na0 cs 0 = none) ∧ (4 ≤ 1 + 1 → fp (in0 len) cs 0 = none)) := by
                refine ⟨fun h => ?_, fun h => ?_, fun h => ?_, fun h => ?_⟩
                · exact HF.out.1 (by omega)
                · exact hn
                · exact absurd h (by omega)
                · exact absurd h (by omega)
              clear HG HF hn
              go_wp2_with fail
              go_roundw
              case rel => exact ⟨1 + 1, by omega, by go_num, HF1, hB, B0, BK⟩
              case measure => simp [intOf]
        · have fc : wr.cell? ⟨gk, 2, none⟩ = some (.func (Fn.func 30) #[] #[]) := by rw [blk_cell BK.out]; rfl
          go_wp2_with fail
          clear fc a0
          rw [show (((2 : Nat)) : Int) = 2 from rfl]
          go_loopw [20] (fun i wr => ∃ p : Nat, p ≤ len ∧ i = .int .i64 p ∧ Hid (fp na0 ((xs.drop p).map FC.d) p = fp na0 cs 0) ∧ Below w.heap.size w wr ∧ Hid (wr.heap[w.heap.size]? = some (CO (.slice a len cap))) ∧ Hid (wr.heap[gk]? = some (.cells #[.func (Fn.func 28) #[] #[], .func (Fn.func 29) #[] #[], .func (Fn.func 30) #[] #[], .func (Fn.func 31) #[] #[]] 77))) (fun i _ => len - (intOf i).toNat)
          case atStart => exact ⟨0, Nat.zero_le _, rfl, by show fp na0 ((xs.drop 0).map FC.d) 0 = _; rw [HM.out, List.drop_zero], hB, B0, BK⟩
          case round =>
            clear hB B0 BK
            obtain ⟨p, hp, rfl, HG, hB, B0, BK⟩ := hrel
            by_cases k2 : p < len
            · have a0 : wr.cell? ⟨w.heap.size, 0, none⟩ = some (.slice a len cap) := by rw [blk_cell B0.out]; rfl
              obtain ⟨f, hf⟩ : ∃ f, xs[p]? = some f := ⟨xs[p]'(by rw [HL.out]; exact k2), by simp⟩
              obtain ⟨b, off, rfl, hb, hc⟩ := H.out.nine hf
              have hok := H.out.ok f (List.mem_of_getElem? hf)
              have HLI : Hid (f.lie w) := H.out.lie f (List.mem_of_getElem? hf)
              obtain ⟨hr0, hr1⟩ := regs_of (HF.out.1 (by omega)) (show cs[p]? = some f.d by rw [HM.out]; exact map_at hf)
              have HD : Hid ((match na0 p f.d with | some j => some (p, j) | none => fp na0 ((xs.drop (p + 1)).map FC.d) (p + 1)) = fp na0 cs 0) := by have h := HG.out; rw [fp_drop _ hf] at h; exact h
              clear HG hf hb
              cases hh : na0 p f.d with
              | some i =>
                have HR : Hid (optF (shapeV cs) = some (4, (p : Int), (i : Int))) := opt_parts (by omega) (parts_4 HB.out (HF.out.1 (by omega)) (HF.out.2.1 (by omega)) (by rw [← HD.out, hh]))
                go_wp2_with fail
                refine (ickn_any b off len cap p f _ k2 hlen (hc.later hB) hok (HLI.out.later hB) hr0 hr1).mono ?_
                rw [ckf_some hh, show EV (some ((4 : Int), (p : Int), (i : Int))) = .iface 72 (FV 4 p i) from rfl]
                rintro e w2 ⟨rfl, hx⟩
                replace hB := hB.trans (hx.mono hB.size)
                clear hx a0
                go_wp2_with fail
                go_ret
                exact ⟨by rw [HR.out]; rfl, hB⟩
              | none =>
                have HG1 : Hid (fp na0 ((xs.drop (p + 1)).map FC.d) (p + 1) = fp na0 cs 0) := by have h := HD.out; rw [hh] at h; exact h
                go_wp2_with fail
                refine (ickn_any b off len cap p f _ k2 hlen (hc.later hB) hok (HLI.out.later hB) hr0 hr1).mono ?_
                rw [ckf_none hh, show EV none = .nilIface from rfl]
                rintro e w2 ⟨rfl, hx⟩
                replace hB := hB.trans (hx.mono hB.size)
                replace B0 : Hid _ := blk_later hx B0.out
                replace BK : Hid _ := blk_later hx BK.out
                clear hx a0
                go_wp2_with fail
                go_roundw
                case rel => exact ⟨p + 1, by omega, by go_num, HG1, hB, B0, BK⟩
                case measure => simp [intOf]; omega
            · have hn : fp na0 cs 0 = none := by rw [← HG.out]; exact drop_end (by rw [HL.out]; omega) _
              have HF1 : Hid ((1 ≤ 2 + 1 → fp hd0 cs 0 = none) ∧ (2 ≤ 2 + 1 → fp co0 cs 0 = none) ∧ (3 ≤ 2 + 1 → fp na0 cs 0 = none) ∧ (4 ≤ 2 + 1 → fp (in0 len) cs 0 = none)) := by
                refine ⟨fun h => ?_, fun h => ?_, fun h => ?_, fun h => ?_⟩
                · exact HF.out.1 (by omega)
                · exact HF.out.2.1 (by omega)
                · exact hn
                · exact absurd h (by omega)
              clear HG HF hn
              go_wp2_with fail
              go_roundw
              case rel => exact ⟨2 + 1, by omega, by go_num, HF1, hB, B0, BK⟩
              case measure => simp [intOf]
        · have fc : wr.cell? ⟨gk, 3, none⟩ = some (.func (Fn.func 31) #[] #[]) := by rw [blk_cell BK.out]; rfl
          go_wp2_with fail
          clear fc a0
          rw [show (((3 : Nat)) : Int) = 3 from rfl]
          go_loopw [20] (fun i wr => ∃ p : Nat, p ≤ len ∧ i = .int .i64 p ∧ Hid (fp (in0 len) ((xs.drop p).map FC.d) p = fp (in0 len) cs 0) ∧ Below w.heap.size w wr ∧ Hid (wr.heap[w.heap.size]? = some (CO (.slice a len cap))) ∧ Hid (wr.heap[gk]? = some (.cells #[.func (Fn.func 28) #[] #[], .func (Fn.func 29) #[] #[], .func (Fn.func 30) #[] #[], .func (Fn.func 31) #[] #[]] 77))) (fun i _ => len - (intOf i).toNat)
          case atStart => exact ⟨0, Nat.zero_le _, rfl, by show fp (in0 len) ((xs.drop 0).map FC.d) 0 = _; rw [HM.out, List.drop_zero], hB, B0, BK⟩
          case round =>
            clear hB B0 BK
            obtain ⟨p, hp, rfl, HG, hB, B0, BK⟩ := hrel
            by_cases k2 : p < len
            · have a0 : wr.cell? ⟨w.heap.size, 0, none⟩ = some (.slice a len cap) := by rw [blk_cell B0.out]; rfl
              obtain ⟨f, hf⟩ : ∃ f, xs[p]? = some f := ⟨xs[p]'(by rw [HL.out]; exact k2), by simp⟩
              obtain ⟨b, off, rfl, hb, hc⟩ := H.out.nine hf
              have hok := H.out.ok f (List.mem_of_getElem? hf)
              have HLI : Hid (f.lie w) := H.out.lie f (List.mem_of_getElem? hf)
              obtain ⟨hr0, hr1⟩ := regs_of (HF.out.1 (by omega)) (show cs[p]? = some f.d by rw [HM.out]; exact map_at hf)
              have HD : Hid ((match (in0 len) p f.d with | some j => some (p, j) | none => fp (in0 len) ((xs.drop (p + 1)).map FC.d) (p + 1)) = fp (in0 len) cs 0) := by have h := HG.out; rw [fp_drop _ hf] at h; exact h
              clear HG hf hb
              cases hh : (in0 len) p f.d with
              | some i =>
                have HR : Hid (optF (shapeV cs) = some (5, (p : Int), (i : Int))) := opt_parts (by omega) (parts_5 HB.out (HF.out.1 (by omega)) (HF.out.2.1 (by omega)) (HF.out.2.2.1 (by omega)) (by rw [HCL.out, ← HD.out, hh]))
                go_wp2_with fail
                refine (icki_any b off len cap p f _ k2 hlen (hc.later hB) hok (HLI.out.later hB) hr0 hr1 (HLY.out.later hB)).mono ?_
                rw [ckf_some hh, show EV (some ((5 : Int), (p : Int), (i : Int))) = .iface 72 (FV 5 p i) from rfl]
                rintro e w2 ⟨rfl, hx⟩
                replace hB := hB.trans (hx.mono hB.size)
                clear hx a0
                go_wp2_with fail
                go_ret
                exact ⟨by rw [HR.out]; rfl, hB⟩
              | none =>
                have HG1 : Hid (fp (in0 len) ((xs.drop (p + 1)).map FC.d) (p + 1) = fp (in0 len) cs 0) := by have h := HD.out; rw [hh] at h; exact h
                go_wp2_with fail
                refine (icki_any b off len cap p f _ k2 hlen (hc.later hB) hok (HLI.out.later hB) hr0 hr1 (HLY.out.later hB)).mono ?_
                rw [ckf_none hh, show EV none = .nilIface from rfl]
                rintro e w2 ⟨rfl, hx⟩
                replace hB := hB.trans (hx.mono hB.size)
                replace B0 : Hid _ := blk_later hx B0.out
                replace BK : Hid _ := blk_later hx BK.out
                clear hx a0
                go_wp2_with fail
                go_roundw
                case rel => exact ⟨p + 1, by omega, by go_num, HG1, hB, B0, BK⟩
                case measure => simp [intOf]; omega
            · have hn : fp (in0 len) cs 0 = none := by rw [← HG.out]; exact drop_end (by rw [HL.out]; omega) _
              have HF1 : Hid ((1 ≤ 3 + 1 → fp hd0 cs 0 = none) ∧ (2 ≤ 3 + 1 → fp co0 cs 0 = none) ∧ (3 ≤ 3 + 1 → fp na0 cs 0 = none) ∧ (4 ≤ 3 + 1 → fp (in0 len) cs 0 = none)) := by
                refine ⟨fun h => ?_, fun h => ?_, fun h => ?_, fun h => ?_⟩
                · exact HF.out.1 (by omega)
                · exact HF.out.2.1 (by omega)
                · exact HF.out.2.2.1 (by omega)
                · exact hn
              clear HG HF hn
              go_wp2_with fail
              go_roundw
              case rel => exact ⟨3 + 1, by omega, by go_num, HF1, hB, B0, BK⟩
              case measure => simp [intOf]
      · have hm4 : m = 4 := by omega
        subst hm4
        obtain ⟨h2, h3, h4, h5⟩ := HF.out
        have HPZ : Hid (partsV cs = (0, 0, 0)) := parts_0 HB.out (h2 (by omega)) (h3 (by omega)) (h4 (by omega)) (by rw [HCL.out]; exact h5 (by omega))
        clear HF h2 h3 h4 h5
        go_wp2_with fail
        refine (ifns_any a len cap xs _ (H.out.later hB) HL.out (by rw [← HM.out, HPZ.out])).mono ?_
        rw [← HM.out, ← opt_fns HPZ.out]
        rintro e w2 ⟨rfl, hx⟩
        replace hB := hB.trans (hx.mono hB.size)
        clear hx a0
        go_wp2_with fail
        go_ret
        exact ⟨rfl, hB⟩
end Go.Proofs.YtmicnjphlakoaaaGreatDoor
