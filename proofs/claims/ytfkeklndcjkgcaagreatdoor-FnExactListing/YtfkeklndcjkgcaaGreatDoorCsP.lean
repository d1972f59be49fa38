import Derived.Test.YtfkeklndcjkgcaaGreatDoorCsI
import Derived.Laws.OwnMore
/-
  OWN WORK. The specification's shape: codes 1 to 5.
-/
namespace Go.Proofs.YtfkeklndcjkgcaaGreatDoor
open Go.RowKit
attribute [local go_sem] run_store_float
set_option linter.unusedVariables false
set_option linter.unusedSimpArgs false

theorem fault_b (c p i : Int) (w : World) : Calls Tryz.prog 44 #[.int .i64 c, .int .i64 p, .int .i64 i] w fun e w' => e = .returned (FV c p i) ∧ Below w.heap.size w w' :=
  (fault_any c p i w).mono fun e w' h => ⟨h.1, h.2 ▸ bw1 _ _⟩
/-- A fault, as a value. -/
def F3V (t : F3) : Value := FV t.1 t.2.1 t.2.2

def badSize (c : List FD) : Prop := c.length = 0 ∨ 200 < c.length ∨ 6000 < total c
theorem parts_1 {c : List FD} (h : badSize c) : partsV c = (1, 0, 0) := by unfold badSize at h; unfold partsV; rw [if_pos h]
theorem parts_2 {c : List FD} (h : ¬ badSize c) {p i : Nat} (h2 : fp hd0 c 0 = some (p, i)) : partsV c = (2, (p : Int), (i : Int)) := by unfold badSize at h; unfold partsV; rw [if_neg h, h2]
theorem parts_3 {c : List FD} (h : ¬ badSize c) (h2 : fp hd0 c 0 = none) {p i : Nat} (h3 : fp co0 c 0 = some (p, i)) : partsV c = (3, (p : Int), (i : Int)) := by unfold badSize at h; unfold partsV; rw [if_neg h, h2, h3]
theorem parts_4 {c : List FD} (h : ¬ badSize c) (h2 : fp hd0 c 0 = none) (h3 : fp co0 c 0 = none) {p i : Nat} (h4 : fp na0 c 0 = some (p, i)) : partsV c = (4, (p : Int), (i : Int)) := by unfold badSize at h; unfold partsV; rw [if_neg h, h2, h3, h4]
theorem parts_5 {c : List FD} (h : ¬ badSize c) (h2 : fp hd0 c 0 = none) (h3 : fp co0 c 0 = none) (h4 : fp na0 c 0 = none) {p i : Nat} (h5 : fp (in0 c.length) c 0 = some (p, i)) : partsV c = (5, (p : Int), (i : Int)) := by unfold badSize at h; unfold partsV; rw [if_neg h, h2, h3, h4, h5]
theorem parts_0 {c : List FD} (h : ¬ badSize c) (h2 : fp hd0 c 0 = none) (h3 : fp co0 c 0 = none) (h4 : fp na0 c 0 = none) (h5 : fp (in0 c.length) c 0 = none) : partsV c = (0, 0, 0) := by unfold badSize at h; unfold partsV; rw [if_neg h, h2, h3, h4, h5]
theorem regs_of {c : List FD} (h2 : fp hd0 c 0 = none) {p : Nat} {f : FD} (hp : c[p]? = some f) : 0 ≤ f.regs ∧ f.regs ≤ 250 := by
  have := fp_none h2 p f hp
  unfold hd0 at this
  split at this
  · rename_i h
    simp only [headB, Bool.and_eq_true] at h
    have := h.1.1.1.1.2
    simpa [inR] using this
  · cases this
theorem map_at {xs : List FC} {m : Nat} {f : FC} (h : xs[m]? = some f) : (xs.map FC.d)[m]? = some f.d := by simp [h]
theorem drop_end {xs : List FC} {m : Nat} (h : xs.length ≤ m) (inner : Nat → FD → Option Nat) : fp inner ((xs.drop m).map FC.d) m = none := by rw [List.drop_of_length_le h]; rfl
theorem ff_end {α : Type} (ok : Nat → α → Bool) {xs : List α} {m : Nat} (h : xs.length ≤ m) : ff ok (xs.drop m) m = none := by rw [List.drop_of_length_le h]; rfl
theorem sum_take {xs : List FC} {m : Nat} {f : FC} (h : xs[m]? = some f) : ((xs.take (m + 1)).map fun x => x.d.ins.length).sum = ((xs.take m).map fun x => x.d.ins.length).sum + f.d.ins.length := by
  obtain ⟨hlt, he⟩ := List.getElem?_eq_some_iff.1 h
  rw [List.take_add_one, h]
  simp
theorem sum_le {xs : List FC} (m : Nat) : ((xs.take m).map fun x => x.d.ins.length).sum ≤ (xs.map fun x => x.d.ins.length).sum := by
  conv => rhs; rw [← List.take_append_drop m xs]
  rw [List.map_append, List.sum_append]
  omega
theorem total_eq (xs : List FC) : total (xs.map FC.d) = (xs.map fun x => x.d.ins.length).sum := by unfold total; rw [List.map_map]; rfl

set_option maxRecDepth 20000 in
set_option maxHeartbeats 8000000 in
theorem parts_any (a : Option Addr) (len cap : Nat) (xs : List FC) (w : World) (H0 : CodeAt w a xs) (hl : xs.length = len) :
    Calls Tryz.prog 42 #[.agg #[.slice a len cap]] w fun e w' => e = .returned (F3V (partsV (xs.map FC.d))) ∧ Below w.heap.size w w' := by
  have hlen : len ≤ 1048576 := by rw [← hl]; exact H0.len
  have H : Hid (CodeAt w a xs) := H0
  have HL : Hid (xs.length = len) := hl
  obtain ⟨cs, hcs⟩ : ∃ cs, cs = xs.map FC.d := ⟨_, rfl⟩
  have HM : Hid (cs = xs.map FC.d) := hcs
  have HCL : Hid (cs.length = len) := by show cs.length = len; rw [hcs, List.length_map, hl]
  rw [← hcs]
  clear H0 hl hcs
  go_enter Tryz.func42, Tryz.ntmps42
  go_wp2_with fail
  go_loopw [3, 20] (fun t i wr => ∃ (m s : Nat), m ≤ len ∧ i = .int .i64 m ∧ t = .int .i64 s ∧ s ≤ 1048576 ∧ Hid (s = ((xs.take m).map fun x => x.d.ins.length).sum) ∧ Below w.heap.size w wr ∧ Hid (wr.heap[w.heap.size]? = some (CO (.slice a len cap))) ∧ Hid (wr.heap[w.heap.size + 1]? = some (FO 0 0 0))) (fun _ i _ => len - (intOf i).toNat)
  case atStart => exact ⟨0, 0, Nat.zero_le _, rfl, rfl, by omega, rfl, bw2 _ _ _, blk_old (blk_new _ _) _, blk_newn (by simp) _⟩
  case round =>
    obtain ⟨m, s, hm, rfl, rfl, hs, HS, hB, B0, B1⟩ := hrel
    have a0 : wr.cell? ⟨w.heap.size, 0, none⟩ = some (.slice a len cap) := by rw [blk_cell B0.out]; rfl
    by_cases k1 : m < len
    · obtain ⟨f, hf⟩ : ∃ f, xs[m]? = some f := ⟨xs[m]'(by rw [HL.out]; exact k1), by simp⟩
      obtain ⟨b, off, rfl, hb, hc⟩ := H.out.nine hf
      obtain ⟨c0, c1, c2, c3, c4, c5, c6, c7, c8⟩ := hc.later hB
      have hst : s + f.d.ins.length ≤ 1048576 := by
        have h1 := sum_take hf
        have h2 := sum_le (xs := xs) (m + 1)
        have h3 := H.out.all
        have h4 := HS.out
        omega
      have HS1 : Hid (s + f.d.ins.length = ((xs.take (m + 1)).map fun x => x.d.ins.length).sum) := by show s + f.d.ins.length = _; rw [sum_take hf, ← HS.out]
      clear hf hc hb HS
      go_wp2_with fail
      go_roundw
      case rel => exact ⟨m + 1, s + f.d.ins.length, by omega, by go_num, by go_num, by omega, HS1, below_alloc hB _, blk_old B0.out _, blk_old B1.out _⟩
      case measure => simp [intOf]; omega
    · have hml : len = m := by omega
      subst hml
      have hst : s = total cs := by
        rw [HM.out, total_eq, HS.out, List.take_of_length_le (by rw [HL.out]; omega)]
      clear HS
      by_cases hz : len = 0
      · have HR : Hid (partsV cs = (1, 0, 0)) := parts_1 (.inl (by rw [HCL.out]; exact hz))
        have hz' : (len : Int) = 0 := by omega
        have hz'' : ((len : Int) == 0) = true := by simpa using hz'
        go_wp2_with fail
        refine (fault_b _ _ _ _).mono ?_
        rintro e w1 ⟨rfl, hx⟩
        have B1' := blk_later hx B1.out
        have r0 : w1.cell? ⟨w.heap.size + 1, 0, none⟩ = some (.int .i64 0) := by rw [blk_cell B1']; rfl
        have r1 : w1.cell? ⟨w.heap.size + 1, 1, none⟩ = some (.int .i64 0) := by rw [blk_cell B1']; rfl
        have r2 : w1.cell? ⟨w.heap.size + 1, 2, none⟩ = some (.int .i64 0) := by rw [blk_cell B1']; rfl
        have z := blk_frozen B1'
        have hz := hB.trans (hx.mono hB.size)
        clear B1' hx
        go_wp2_with fail
        refine bodyPost_ret (v := FV 1 0 0) (by simp [results, Tryz.results42, go_sem, r0, r1, r2]) rfl ⟨?_, ?_⟩
        · rw [HR.out]; rfl
        · exact ((hz.setCell (p := ⟨w.heap.size + 1, 0, none⟩) (by simp) _).setCell (p := ⟨w.heap.size + 1, 1, none⟩) (by simp) _).setCell (p := ⟨w.heap.size + 1, 2, none⟩) (by simp) _
      have hz' : ((len : Int) == 0) = false := by simpa using hz
      by_cases hz2 : 200 < len
      · have HR : Hid (partsV cs = (1, 0, 0)) := parts_1 (.inr (.inl (by rw [HCL.out]; exact hz2)))
        go_wp2_with fail
        refine (fault_b _ _ _ _).mono ?_
        rintro e w1 ⟨rfl, hx⟩
        have B1' := blk_later hx B1.out
        have r0 : w1.cell? ⟨w.heap.size + 1, 0, none⟩ = some (.int .i64 0) := by rw [blk_cell B1']; rfl
        have r1 : w1.cell? ⟨w.heap.size + 1, 1, none⟩ = some (.int .i64 0) := by rw [blk_cell B1']; rfl
        have r2 : w1.cell? ⟨w.heap.size + 1, 2, none⟩ = some (.int .i64 0) := by rw [blk_cell B1']; rfl
        have z := blk_frozen B1'
        have hz := hB.trans (hx.mono hB.size)
        clear B1' hx
        go_wp2_with fail
        refine bodyPost_ret (v := FV 1 0 0) (by simp [results, Tryz.results42, go_sem, r0, r1, r2]) rfl ⟨?_, ?_⟩
        · rw [HR.out]; rfl
        · exact ((hz.setCell (p := ⟨w.heap.size + 1, 0, none⟩) (by simp) _).setCell (p := ⟨w.heap.size + 1, 1, none⟩) (by simp) _).setCell (p := ⟨w.heap.size + 1, 2, none⟩) (by simp) _
      by_cases hz3 : 6000 < s
      · have HR : Hid (partsV cs = (1, 0, 0)) := parts_1 (.inr (.inr (by rw [← hst]; exact hz3)))
        go_wp2_with fail
        refine (fault_b _ _ _ _).mono ?_
        rintro e w1 ⟨rfl, hx⟩
        have B1' := blk_later hx B1.out
        have r0 : w1.cell? ⟨w.heap.size + 1, 0, none⟩ = some (.int .i64 0) := by rw [blk_cell B1']; rfl
        have r1 : w1.cell? ⟨w.heap.size + 1, 1, none⟩ = some (.int .i64 0) := by rw [blk_cell B1']; rfl
        have r2 : w1.cell? ⟨w.heap.size + 1, 2, none⟩ = some (.int .i64 0) := by rw [blk_cell B1']; rfl
        have z := blk_frozen B1'
        have hz := hB.trans (hx.mono hB.size)
        clear B1' hx
        go_wp2_with fail
        refine bodyPost_ret (v := FV 1 0 0) (by simp [results, Tryz.results42, go_sem, r0, r1, r2]) rfl ⟨?_, ?_⟩
        · rw [HR.out]; rfl
        · exact ((hz.setCell (p := ⟨w.heap.size + 1, 0, none⟩) (by simp) _).setCell (p := ⟨w.heap.size + 1, 1, none⟩) (by simp) _).setCell (p := ⟨w.heap.size + 1, 2, none⟩) (by simp) _
      have HZ : Hid (¬ badSize cs) := by
        intro h
        rcases h with h | h | h
        · rw [HCL.out] at h; exact hz h
        · rw [HCL.out] at h; exact hz2 h
        · rw [← hst] at h; exact hz3 h
      clear hst
      go_wp2_with fail
      clear a0 hz hz' hz2 hz3 hs hm k1
      go_loopw [48] (fun i wr => ∃ m : Nat, m ≤ len ∧ i = .int .i64 m ∧ Hid (fp hd0 ((xs.drop m).map FC.d) m = fp hd0 cs 0) ∧ Below w.heap.size w wr ∧ Hid (wr.heap[w.heap.size]? = some (CO (.slice a len cap))) ∧ Hid (wr.heap[w.heap.size + 1]? = some (FO 0 0 0))) (fun i _ => len - (intOf i).toNat)
      case atStart => exact ⟨0, Nat.zero_le _, rfl, by show fp hd0 ((xs.drop 0).map FC.d) 0 = _; rw [HM.out, List.drop_zero], hB, B0, B1⟩
      case round =>
        obtain ⟨m, hm, rfl, HF, hB, B0, B1⟩ := hrel
        have a0 : wr.cell? ⟨w.heap.size, 0, none⟩ = some (.slice a len cap) := by rw [blk_cell B0.out]; rfl
        by_cases k1 : m < len
        · obtain ⟨f, hf⟩ : ∃ f, xs[m]? = some f := ⟨xs[m]'(by rw [HL.out]; exact k1), by simp⟩
          obtain ⟨b, off, rfl, hb, hc⟩ := H.out.nine hf
          have hok := H.out.ok f (List.mem_of_getElem? hf)
          have HLI : Hid (f.lie w) := H.out.lie f (List.mem_of_getElem? hf)
          have HD : Hid ((match hd0 m f.d with | some j => some (m, j) | none => fp hd0 ((xs.drop (m + 1)).map FC.d) (m + 1)) = fp hd0 cs 0) := by have h := HF.out; rw [fp_drop _ hf] at h; exact h
          clear HF hf hb
          cases hh : headB m f.d
          · have HR : Hid (partsV cs = (2, (m : Int), ((0 : Nat) : Int))) := parts_2 HZ.out (by rw [← HD.out]; simp [hd0, hh])
            go_wp2_with fail
            refine (head_any b off len cap m f _ k1 hlen (hc.later hB) hok).mono ?_
            rw [hh]
            rintro e w2 ⟨rfl, hx⟩
            replace hB := hB.trans (hx.mono hB.size); replace B0 : Hid _ := blk_later hx B0.out; replace B1 : Hid _ := blk_later hx B1.out
            clear hx a0
            go_wp2_with fail
            refine (fault_b _ _ _ _).mono ?_
            rintro e w1 ⟨rfl, hx⟩
            have B1' := blk_later hx B1.out
            have r0 : w1.cell? ⟨w.heap.size + 1, 0, none⟩ = some (.int .i64 0) := by rw [blk_cell B1']; rfl
            have r1 : w1.cell? ⟨w.heap.size + 1, 1, none⟩ = some (.int .i64 0) := by rw [blk_cell B1']; rfl
            have r2 : w1.cell? ⟨w.heap.size + 1, 2, none⟩ = some (.int .i64 0) := by rw [blk_cell B1']; rfl
            have z := blk_frozen B1'
            have hz := hB.trans (hx.mono hB.size)
            clear B1' hx
            go_wp2_with fail
            refine bodyPost_ret (v := FV 2 (m : Int) 0) (by simp [results, Tryz.results42, go_sem, r0, r1, r2]) rfl ⟨?_, ?_⟩
            · rw [HR.out]; rfl
            · exact ((hz.setCell (p := ⟨w.heap.size + 1, 0, none⟩) (by simp) _).setCell (p := ⟨w.heap.size + 1, 1, none⟩) (by simp) _).setCell (p := ⟨w.heap.size + 1, 2, none⟩) (by simp) _
          · have HF1 : Hid (fp hd0 ((xs.drop (m + 1)).map FC.d) (m + 1) = fp hd0 cs 0) := by have h := HD.out; rw [show hd0 m f.d = none by simp [hd0, hh]] at h; exact h
            clear HD
            go_wp2_with fail
            refine (head_any b off len cap m f _ k1 hlen (hc.later hB) hok).mono ?_
            rw [hh]
            rintro e w2 ⟨rfl, hx⟩
            replace hB := hB.trans (hx.mono hB.size); replace B0 : Hid _ := blk_later hx B0.out; replace B1 : Hid _ := blk_later hx B1.out
            clear hx a0
            go_wp2_with fail
            go_roundw
            case rel => exact ⟨m + 1, by omega, by go_num, HF1, hB, B0, B1⟩
            case measure => simp [intOf]; omega
        · have hml : len = m := by omega
          subst hml
          have H2 : Hid (fp hd0 cs 0 = none) := by show fp hd0 cs 0 = none; rw [← HF.out]; exact drop_end (by rw [HL.out]; omega) _
          clear HF a0 hm k1
          have a0 : wr.cell? ⟨w.heap.size, 0, none⟩ = some (.slice a len cap) := by rw [blk_cell B0.out]; rfl
          go_wp2_with fail
          clear a0
          go_loopw [61] (fun i wr => ∃ m : Nat, m ≤ len ∧ i = .int .i64 m ∧ Hid (fp co0 ((xs.drop m).map FC.d) m = fp co0 cs 0) ∧ Below w.heap.size w wr ∧ Hid (wr.heap[w.heap.size]? = some (CO (.slice a len cap))) ∧ Hid (wr.heap[w.heap.size + 1]? = some (FO 0 0 0))) (fun i _ => len - (intOf i).toNat)
          case atStart => exact ⟨0, Nat.zero_le _, rfl, by show fp co0 ((xs.drop 0).map FC.d) 0 = _; rw [HM.out, List.drop_zero], hB, B0, B1⟩
          case round =>
            obtain ⟨m, hm, rfl, HF, hB, B0, B1⟩ := hrel
            have a0 : wr.cell? ⟨w.heap.size, 0, none⟩ = some (.slice a len cap) := by rw [blk_cell B0.out]; rfl
            by_cases k1 : m < len
            · obtain ⟨f, hf⟩ : ∃ f, xs[m]? = some f := ⟨xs[m]'(by rw [HL.out]; exact k1), by simp⟩
              obtain ⟨b, off, rfl, hb, hc⟩ := H.out.nine hf
              have hok := H.out.ok f (List.mem_of_getElem? hf)
              have HLI : Hid (f.lie w) := H.out.lie f (List.mem_of_getElem? hf)
              have HD : Hid ((match co0 m f.d with | some j => some (m, j) | none => fp co0 ((xs.drop (m + 1)).map FC.d) (m + 1)) = fp co0 cs 0) := by have h := HF.out; rw [fp_drop _ hf] at h; exact h
              clear HF hf hb
              obtain ⟨d, au, cu, ac, cc, ai, ci, an, cn⟩ := f
              obtain ⟨c0, c1, c2, c3, c4, c5, c6, c7, c8⟩ := hc.later hB
              simp only at c0 c1 c2 c3 c4 c5 c6 c7 c8 hok HD
              have HLX : Hid (SlA w 5 VD.cells ac d.consts) := HLI.out.c
              have hlx : d.consts.length ≤ 1048576 := hok.lc
              have HOK : Hid d.ok := hok
              have HCC : Hid (Cell9 w b (off + m * 9) ⟨d, au, cu, ac, cc, ai, ci, an, cn⟩) := hc
              clear hok hc HLI
              go_wp2_with fail
              obtain ⟨g, hg⟩ : ∃ g, g = wr.heap.size := ⟨_, rfl⟩
              have BF : Hid ((wr.alloc (PO ⟨d, au, cu, ac, cc, ai, ci, an, cn⟩)).heap[g]? = some (PO ⟨d, au, cu, ac, cc, ai, ci, an, cn⟩)) := blk_newn hg.symm _
              rw [← hg]
              clear hg c0 c1 c2 c3 c4 c5 c6 c7 c8 a0
              go_loopw [69] (fun i wi => ∃ q : Nat, q ≤ d.consts.length ∧ i = .int .i64 q ∧ Hid (ff (fun _ => constB) (d.consts.drop q) q = co0 m d) ∧ Below w.heap.size w wi ∧ Hid (wi.heap[w.heap.size]? = some (CO (.slice (some ⟨b, off, none⟩) len cap))) ∧ Hid (wi.heap[w.heap.size + 1]? = some (FO 0 0 0)) ∧ Hid (wi.heap[g]? = some (PO ⟨d, au, cu, ac, cc, ai, ci, an, cn⟩))) (fun i _ => d.consts.length - (intOf i).toNat)
              case atStart => exact ⟨0, Nat.zero_le _, rfl, rfl, below_alloc hB _, blk_old B0.out _, blk_old B1.out _, BF⟩
              case round =>
                obtain ⟨q, hq, rfl, HG, hB, B0, B1, BF⟩ := hrel
                by_cases k2 : q < d.consts.length
                · obtain ⟨v, hv⟩ : ∃ v, d.consts[q]? = some v := ⟨d.consts[q]'k2, by simp⟩
                  obtain ⟨bc, oc, rfl, _, hcv⟩ := HLX.out q v hv
                  have v0 : wr.cell? ⟨bc, oc + q * 5, none⟩ = some (.int .i64 v.k) := cell_later hB (hcv 0 _ rfl)
                  have v1 : wr.cell? ⟨bc, oc + q * 5 + 1, none⟩ = some (.int .i64 v.n) := cell_later hB (hcv 1 _ rfl)
                  have v2 : wr.cell? ⟨bc, oc + q * 5 + 2, none⟩ = some (.float .f64 v.f) := cell_later hB (hcv 2 _ rfl)
                  have v3 : wr.cell? ⟨bc, oc + q * 5 + 3, none⟩ = some (.string v.s) := cell_later hB (hcv 3 _ rfl)
                  have v4 : wr.cell? ⟨bc, oc + q * 5 + 4, none⟩ = some (.int .i64 v.r) := cell_later hB (hcv 4 _ rfl)
                  have hvok := HOK.out.c v (List.mem_of_getElem? hv)
                  have HV : Hid (d.consts[q]? = some v) := hv
                  have HE : Hid ((if constB v = true then ff (fun _ => constB) (d.consts.drop (q + 1)) (q + 1) else some q) = co0 m d) := by have h := HG.out; rw [ff_drop _ hv] at h; exact h
                  clear HG hv hcv
                  cases hh : constB v
                  · have HR : Hid (partsV cs = (3, (m : Int), (q : Int))) := parts_3 HZ.out H2.out (by rw [← HD.out]; have h := HE.out; rw [hh, if_neg (by simp)] at h; rw [← h])
                    go_wp2_with fail
                    refine (const_any v _ hvok).mono ?_
                    rw [hh]
                    rintro e w2 ⟨rfl, hx⟩
                    have hy := below_alloc hB (.cells #[.int .i64 v.k, .int .i64 v.n, .float .f64 v.f, .string v.s, .int .i64 v.r] 113)
                    replace hB := hy.trans (hx.mono hy.size)
                    replace B0 : Hid _ := blk_later hx (blk_old B0.out _)
                    replace B1 : Hid _ := blk_later hx (blk_old B1.out _)
                    replace BF : Hid _ := blk_later hx (blk_old BF.out _)
                    clear hx hy v0 v1 v2 v3 v4
                    go_wp2_with fail
                    refine (fault_b _ _ _ _).mono ?_
                    rintro e w1 ⟨rfl, hx⟩
                    have B1' := blk_later hx B1.out
                    have r0 : w1.cell? ⟨w.heap.size + 1, 0, none⟩ = some (.int .i64 0) := by rw [blk_cell B1']; rfl
                    have r1 : w1.cell? ⟨w.heap.size + 1, 1, none⟩ = some (.int .i64 0) := by rw [blk_cell B1']; rfl
                    have r2 : w1.cell? ⟨w.heap.size + 1, 2, none⟩ = some (.int .i64 0) := by rw [blk_cell B1']; rfl
                    have z := blk_frozen B1'
                    have hz := hB.trans (hx.mono hB.size)
                    clear B1' hx
                    go_wp2_with fail
                    refine bodyPost_ret (v := FV 3 (m : Int) (q : Int)) (by simp [results, Tryz.results42, go_sem, r0, r1, r2]) rfl ⟨?_, ?_⟩
                    · rw [HR.out]; rfl
                    · exact ((hz.setCell (p := ⟨w.heap.size + 1, 0, none⟩) (by simp) _).setCell (p := ⟨w.heap.size + 1, 1, none⟩) (by simp) _).setCell (p := ⟨w.heap.size + 1, 2, none⟩) (by simp) _
                  · have HG1 : Hid (ff (fun _ => constB) (d.consts.drop (q + 1)) (q + 1) = co0 m d) := by have h := HE.out; rw [hh, if_pos rfl] at h; exact h
                    clear HE HV
                    go_wp2_with fail
                    refine (const_any v _ hvok).mono ?_
                    rw [hh]
                    rintro e w2 ⟨rfl, hx⟩
                    have hy := below_alloc hB (.cells #[.int .i64 v.k, .int .i64 v.n, .float .f64 v.f, .string v.s, .int .i64 v.r] 113)
                    replace hB := hy.trans (hx.mono hy.size)
                    replace B0 : Hid _ := blk_later hx (blk_old B0.out _)
                    replace B1 : Hid _ := blk_later hx (blk_old B1.out _)
                    replace BF : Hid _ := blk_later hx (blk_old BF.out _)
                    clear hx hy v0 v1 v2 v3 v4
                    go_wp2_with fail
                    go_roundw
                    case rel => exact ⟨q + 1, by omega, by go_num, HG1, hB, B0, B1, BF⟩
                    case measure => simp [intOf]; omega
                · have hn : co0 m d = none := by rw [← HG.out]; exact ff_end _ (by omega)
                  have HF1 : Hid (fp co0 ((xs.drop (m + 1)).map FC.d) (m + 1) = fp co0 cs 0) := by have h := HD.out; rw [hn] at h; exact h
                  clear HG HD hn
                  go_wp2_with fail
                  go_roundw
                  case rel => exact ⟨m + 1, by omega, by go_num, HF1, hB, B0, B1⟩
                  case measure => simp [intOf]; omega
            · have hml : len = m := by omega
              subst hml
              have H3 : Hid (fp co0 cs 0 = none) := by show fp co0 cs 0 = none; rw [← HF.out]; exact drop_end (by rw [HL.out]; omega) _
              clear HF a0 hm k1
              have a0 : wr.cell? ⟨w.heap.size, 0, none⟩ = some (.slice a len cap) := by rw [blk_cell B0.out]; rfl
              go_wp2_with fail
              clear a0
              go_loopw [85] (fun i wr => ∃ m : Nat, m ≤ len ∧ i = .int .i64 m ∧ Hid (fp na0 ((xs.drop m).map FC.d) m = fp na0 cs 0) ∧ Below w.heap.size w wr ∧ Hid (wr.heap[w.heap.size]? = some (CO (.slice a len cap))) ∧ Hid (wr.heap[w.heap.size + 1]? = some (FO 0 0 0))) (fun i _ => len - (intOf i).toNat)
              case atStart => exact ⟨0, Nat.zero_le _, rfl, by show fp na0 ((xs.drop 0).map FC.d) 0 = _; rw [HM.out, List.drop_zero], hB, B0, B1⟩
              case round =>
                obtain ⟨m, hm, rfl, HF, hB, B0, B1⟩ := hrel
                have a0 : wr.cell? ⟨w.heap.size, 0, none⟩ = some (.slice a len cap) := by rw [blk_cell B0.out]; rfl
                by_cases k1 : m < len
                · obtain ⟨f, hf⟩ : ∃ f, xs[m]? = some f := ⟨xs[m]'(by rw [HL.out]; exact k1), by simp⟩
                  obtain ⟨b, off, rfl, hb, hc⟩ := H.out.nine hf
                  have hok := H.out.ok f (List.mem_of_getElem? hf)
                  have HLI : Hid (f.lie w) := H.out.lie f (List.mem_of_getElem? hf)
                  have HD : Hid ((match na0 m f.d with | some j => some (m, j) | none => fp na0 ((xs.drop (m + 1)).map FC.d) (m + 1)) = fp na0 cs 0) := by have h := HF.out; rw [fp_drop _ hf] at h; exact h
                  obtain ⟨hr0, hr1⟩ := regs_of H2.out (show cs[m]? = some f.d by rw [HM.out]; exact map_at hf)
                  clear HF hf hb
                  obtain ⟨d, au, cu, ac, cc, ai, ci, an, cn⟩ := f
                  obtain ⟨c0, c1, c2, c3, c4, c5, c6, c7, c8⟩ := hc.later hB
                  simp only at c0 c1 c2 c3 c4 c5 c6 c7 c8 hok HD hr0 hr1
                  have HLX : Hid (SlA w 4 ND.cells an d.named) := HLI.out.n
                  have hlx : d.named.length ≤ 1048576 := hok.ln
                  have HOK : Hid d.ok := hok
                  have HCC : Hid (Cell9 w b (off + m * 9) ⟨d, au, cu, ac, cc, ai, ci, an, cn⟩) := hc
                  clear hok hc HLI
                  go_wp2_with fail
                  obtain ⟨g, hg⟩ : ∃ g, g = wr.heap.size := ⟨_, rfl⟩
                  have BF : Hid ((wr.alloc (PO ⟨d, au, cu, ac, cc, ai, ci, an, cn⟩)).heap[g]? = some (PO ⟨d, au, cu, ac, cc, ai, ci, an, cn⟩)) := blk_newn hg.symm _
                  rw [← hg]
                  clear hg c0 c1 c2 c3 c4 c5 c6 c7 c8 a0
                  go_loopw [93] (fun i wi => ∃ q : Nat, q ≤ d.named.length ∧ i = .int .i64 q ∧ Hid (ff (namedB d) (d.named.drop q) q = na0 m d) ∧ Below w.heap.size w wi ∧ Hid (wi.heap[w.heap.size]? = some (CO (.slice (some ⟨b, off, none⟩) len cap))) ∧ Hid (wi.heap[w.heap.size + 1]? = some (FO 0 0 0)) ∧ Hid (wi.heap[g]? = some (PO ⟨d, au, cu, ac, cc, ai, ci, an, cn⟩))) (fun i _ => d.named.length - (intOf i).toNat)
                  case atStart => exact ⟨0, Nat.zero_le _, rfl, rfl, below_alloc hB _, blk_old B0.out _, blk_old B1.out _, BF⟩
                  case round =>
                    obtain ⟨q, hq, rfl, HG, hB, B0, B1, BF⟩ := hrel
                    have a0 : wr.cell? ⟨w.heap.size, 0, none⟩ = some (.slice (some ⟨b, off, none⟩) len cap) := by rw [blk_cell B0.out]; rfl
                    by_cases k2 : q < d.named.length
                    · obtain ⟨v, hv⟩ : ∃ v, d.named[q]? = some v := ⟨d.named[q]'k2, by simp⟩
                      have p0 : wr.cell? ⟨g, 0, none⟩ = some (.string d.name) := by rw [blk_cell BF.out]; rfl
                      have p1 : wr.cell? ⟨g, 1, none⟩ = some (.int .i64 d.line) := by rw [blk_cell BF.out]; rfl
                      have p2 : wr.cell? ⟨g, 2, none⟩ = some (.int .i64 d.params) := by rw [blk_cell BF.out]; rfl
                      have p3 : wr.cell? ⟨g, 3, none⟩ = some (.bool d.rest) := by rw [blk_cell BF.out]; rfl
                      have p4 : wr.cell? ⟨g, 4, none⟩ = some (.int .i64 d.regs) := by rw [blk_cell BF.out]; rfl
                      have p5 : wr.cell? ⟨g, 5, none⟩ = some (.slice au d.ups.length cu) := by rw [blk_cell BF.out]; rfl
                      have p6 : wr.cell? ⟨g, 6, none⟩ = some (.slice ac d.consts.length cc) := by rw [blk_cell BF.out]; rfl
                      have p7 : wr.cell? ⟨g, 7, none⟩ = some (.slice ai d.ins.length ci) := by rw [blk_cell BF.out]; rfl
                      have p8 : wr.cell? ⟨g, 8, none⟩ = some (.slice an d.named.length cn) := by rw [blk_cell BF.out]; rfl
                      have HV : Hid (d.named[q]? = some v) := hv
                      have HE : Hid ((if namedB d q v = true then ff (namedB d) (d.named.drop (q + 1)) (q + 1) else some q) = na0 m d) := by have h := HG.out; rw [ff_drop _ hv] at h; exact h
                      clear HG hv
                      cases hh : namedB d q v
                      · have HR : Hid (partsV cs = (4, (m : Int), (q : Int))) := parts_4 HZ.out H2.out H3.out (by rw [← HD.out]; have h := HE.out; rw [hh, if_neg (by simp)] at h; rw [← h])
                        go_wp2_with fail
                        refine (named_any ⟨d, au, cu, ac, cc, ai, ci, an, cn⟩ q v _ HV.out (HLX.out.later hB) HOK.out hr0 hr1).mono ?_
                        rw [hh]
                        rintro e w2 ⟨rfl, hx⟩
                        replace hB := hB.trans (hx.mono hB.size)
                        replace B0 : Hid _ := blk_later hx B0.out
                        replace B1 : Hid _ := blk_later hx B1.out
                        replace BF : Hid _ := blk_later hx BF.out
                        clear hx a0 p0 p1 p2 p3 p4 p5 p6 p7 p8
                        go_wp2_with fail
                        refine (fault_b _ _ _ _).mono ?_
                        rintro e w1 ⟨rfl, hx⟩
                        have B1' := blk_later hx B1.out
                        have r0 : w1.cell? ⟨w.heap.size + 1, 0, none⟩ = some (.int .i64 0) := by rw [blk_cell B1']; rfl
                        have r1 : w1.cell? ⟨w.heap.size + 1, 1, none⟩ = some (.int .i64 0) := by rw [blk_cell B1']; rfl
                        have r2 : w1.cell? ⟨w.heap.size + 1, 2, none⟩ = some (.int .i64 0) := by rw [blk_cell B1']; rfl
                        have z := blk_frozen B1'
                        have hz := hB.trans (hx.mono hB.size)
                        clear B1' hx
                        go_wp2_with fail
                        refine bodyPost_ret (v := FV 4 (m : Int) (q : Int)) (by simp [results, Tryz.results42, go_sem, r0, r1, r2]) rfl ⟨?_, ?_⟩
                        · rw [HR.out]; rfl
                        · exact ((hz.setCell (p := ⟨w.heap.size + 1, 0, none⟩) (by simp) _).setCell (p := ⟨w.heap.size + 1, 1, none⟩) (by simp) _).setCell (p := ⟨w.heap.size + 1, 2, none⟩) (by simp) _
                      · have HG1 : Hid (ff (namedB d) (d.named.drop (q + 1)) (q + 1) = na0 m d) := by have h := HE.out; rw [hh, if_pos rfl] at h; exact h
                        clear HE
                        go_wp2_with fail
                        refine (named_any ⟨d, au, cu, ac, cc, ai, ci, an, cn⟩ q v _ HV.out (HLX.out.later hB) HOK.out hr0 hr1).mono ?_
                        rw [hh]
                        rintro e w2 ⟨rfl, hx⟩
                        replace hB := hB.trans (hx.mono hB.size)
                        replace B0 : Hid _ := blk_later hx B0.out
                        replace B1 : Hid _ := blk_later hx B1.out
                        replace BF : Hid _ := blk_later hx BF.out
                        clear hx a0 p0 p1 p2 p3 p4 p5 p6 p7 p8
                        go_wp2_with fail
                        go_roundw
                        case rel => exact ⟨q + 1, by omega, by go_num, HG1, hB, B0, B1, BF⟩
                        case measure => simp [intOf]; omega
                    · have hn : na0 m d = none := by rw [← HG.out]; exact ff_end _ (by omega)
                      have HF1 : Hid (fp na0 ((xs.drop (m + 1)).map FC.d) (m + 1) = fp na0 cs 0) := by have h := HD.out; rw [hn] at h; exact h
                      clear HG HD hn
                      go_wp2_with fail
                      go_roundw
                      case rel => exact ⟨m + 1, by omega, by go_num, HF1, hB, B0, B1⟩
                      case measure => simp [intOf]; omega
                · have hml : len = m := by omega
                  subst hml
                  have H4 : Hid (fp na0 cs 0 = none) := by show fp na0 cs 0 = none; rw [← HF.out]; exact drop_end (by rw [HL.out]; omega) _
                  clear HF a0 hm k1
                  have a0 : wr.cell? ⟨w.heap.size, 0, none⟩ = some (.slice a len cap) := by rw [blk_cell B0.out]; rfl
                  go_wp2_with fail
                  clear a0
                  go_loopw [108] (fun i wr => ∃ m : Nat, m ≤ len ∧ i = .int .i64 m ∧ Hid (fp (in0 len) ((xs.drop m).map FC.d) m = fp (in0 len) cs 0) ∧ Below w.heap.size w wr ∧ Hid (wr.heap[w.heap.size]? = some (CO (.slice a len cap))) ∧ Hid (wr.heap[w.heap.size + 1]? = some (FO 0 0 0))) (fun i _ => len - (intOf i).toNat)
                  case atStart => exact ⟨0, Nat.zero_le _, rfl, by show fp (in0 len) ((xs.drop 0).map FC.d) 0 = _; rw [HM.out, List.drop_zero], hB, B0, B1⟩
                  case round =>
                    obtain ⟨m, hm, rfl, HF, hB, B0, B1⟩ := hrel
                    have a0 : wr.cell? ⟨w.heap.size, 0, none⟩ = some (.slice a len cap) := by rw [blk_cell B0.out]; rfl
                    by_cases k1 : m < len
                    · obtain ⟨f, hf⟩ : ∃ f, xs[m]? = some f := ⟨xs[m]'(by rw [HL.out]; exact k1), by simp⟩
                      obtain ⟨b, off, rfl, hb, hc⟩ := H.out.nine hf
                      have hok := H.out.ok f (List.mem_of_getElem? hf)
                      have HLI : Hid (f.lie w) := H.out.lie f (List.mem_of_getElem? hf)
                      have HD : Hid ((match (in0 len) m f.d with | some j => some (m, j) | none => fp (in0 len) ((xs.drop (m + 1)).map FC.d) (m + 1)) = fp (in0 len) cs 0) := by have h := HF.out; rw [fp_drop _ hf] at h; exact h
                      obtain ⟨hr0, hr1⟩ := regs_of H2.out (show cs[m]? = some f.d by rw [HM.out]; exact map_at hf)
                      clear HF hf hb
                      obtain ⟨d, au, cu, ac, cc, ai, ci, an, cn⟩ := f
                      obtain ⟨c0, c1, c2, c3, c4, c5, c6, c7, c8⟩ := hc.later hB
                      simp only at c0 c1 c2 c3 c4 c5 c6 c7 c8 hok HD hr0 hr1
                      have HLX : Hid (SlA w 5 ID.cells ai d.ins) := HLI.out.i
                      have hlx : d.ins.length ≤ 1048576 := hok.li
                      have HOK : Hid d.ok := hok
                      have HCC : Hid (Cell9 w b (off + m * 9) ⟨d, au, cu, ac, cc, ai, ci, an, cn⟩) := hc
                      clear hok hc HLI
                      by_cases hemp : d.ins.length = 0
                      · have HR : Hid (partsV cs = (5, (m : Int), ((0 : Nat) : Int))) := parts_5 HZ.out H2.out H3.out H4.out (by rw [HCL.out, ← HD.out]; simp [in0, hemp])
                        have hemp' : ((d.ins.length : Int) == 0) = true := by simp [hemp]
                        go_wp2_with fail
                        refine (fault_b _ _ _ _).mono ?_
                        rintro e w1 ⟨rfl, hx⟩
                        have B1' := blk_later hx (blk_old B1.out _)
                        have r0 : w1.cell? ⟨w.heap.size + 1, 0, none⟩ = some (.int .i64 0) := by rw [blk_cell B1']; rfl
                        have r1 : w1.cell? ⟨w.heap.size + 1, 1, none⟩ = some (.int .i64 0) := by rw [blk_cell B1']; rfl
                        have r2 : w1.cell? ⟨w.heap.size + 1, 2, none⟩ = some (.int .i64 0) := by rw [blk_cell B1']; rfl
                        have z := blk_frozen B1'
                        have hz := (below_alloc hB _).trans (hx.mono (below_alloc hB _).size)
                        clear B1' hx
                        go_wp2_with fail
                        refine bodyPost_ret (v := FV 5 (m : Int) 0) (by simp [results, Tryz.results42, go_sem, r0, r1, r2]) rfl ⟨?_, ?_⟩
                        · rw [HR.out]; rfl
                        · exact ((hz.setCell (p := ⟨w.heap.size + 1, 0, none⟩) (by simp) _).setCell (p := ⟨w.heap.size + 1, 1, none⟩) (by simp) _).setCell (p := ⟨w.heap.size + 1, 2, none⟩) (by simp) _
                      have hemp' : ((d.ins.length : Int) == 0) = false := by simpa using hemp
                      go_wp2_with fail
                      obtain ⟨g, hg⟩ : ∃ g, g = wr.heap.size := ⟨_, rfl⟩
                      have BF : Hid ((wr.alloc (PO ⟨d, au, cu, ac, cc, ai, ci, an, cn⟩)).heap[g]? = some (PO ⟨d, au, cu, ac, cc, ai, ci, an, cn⟩)) := blk_newn hg.symm _
                      rw [← hg]
                      clear hg c0 c1 c2 c3 c4 c5 c6 c7 c8 a0
                      go_loopw [122] (fun i wi => ∃ q : Nat, q ≤ d.ins.length ∧ i = .int .i64 q ∧ Hid (ff (insB len d) (d.ins.drop q) q = in0 len m d) ∧ Below w.heap.size w wi ∧ Hid (wi.heap[w.heap.size]? = some (CO (.slice (some ⟨b, off, none⟩) len cap))) ∧ Hid (wi.heap[w.heap.size + 1]? = some (FO 0 0 0)) ∧ Hid (wi.heap[g]? = some (PO ⟨d, au, cu, ac, cc, ai, ci, an, cn⟩))) (fun i _ => d.ins.length - (intOf i).toNat)
                      case atStart => exact ⟨0, Nat.zero_le _, rfl, by show ff (insB len d) (d.ins.drop 0) 0 = in0 len m d; rw [List.drop_zero, in0, if_neg hemp], below_alloc hB _, blk_old B0.out _, blk_old B1.out _, BF⟩
                      case round =>
                        obtain ⟨q, hq, rfl, HG, hB, B0, B1, BF⟩ := hrel
                        have a0 : wr.cell? ⟨w.heap.size, 0, none⟩ = some (.slice (some ⟨b, off, none⟩) len cap) := by rw [blk_cell B0.out]; rfl
                        by_cases k2 : q < d.ins.length
                        · obtain ⟨v, hv⟩ : ∃ v, d.ins[q]? = some v := ⟨d.ins[q]'k2, by simp⟩
                          have HV : Hid (d.ins[q]? = some v) := hv
                          have HE : Hid ((if insB len d q v = true then ff (insB len d) (d.ins.drop (q + 1)) (q + 1) else some q) = in0 len m d) := by have h := HG.out; rw [ff_drop _ hv] at h; exact h
                          clear HG hv
                          cases hh : insB len d q v
                          · have HR : Hid (partsV cs = (5, (m : Int), (q : Int))) := parts_5 HZ.out H2.out H3.out H4.out (by rw [HCL.out]; rw [← HD.out]; have h := HE.out; rw [hh, if_neg (by simp)] at h; rw [← h])
                            go_wp2_with fail
                            refine (insok_any b off len cap m ⟨d, au, cu, ac, cc, ai, ci, an, cn⟩ q v _ k1 hlen (HCC.out.later hB) HV.out (HLX.out.later hB) HOK.out hr0 hr1).mono ?_
                            rw [hh]
                            rintro e w2 ⟨rfl, hx⟩
                            replace hB := hB.trans (hx.mono hB.size)
                            replace B0 : Hid _ := blk_later hx B0.out
                            replace B1 : Hid _ := blk_later hx B1.out
                            replace BF : Hid _ := blk_later hx BF.out
                            clear hx a0
                            go_wp2_with fail
                            refine (fault_b _ _ _ _).mono ?_
                            rintro e w1 ⟨rfl, hx⟩
                            have B1' := blk_later hx B1.out
                            have r0 : w1.cell? ⟨w.heap.size + 1, 0, none⟩ = some (.int .i64 0) := by rw [blk_cell B1']; rfl
                            have r1 : w1.cell? ⟨w.heap.size + 1, 1, none⟩ = some (.int .i64 0) := by rw [blk_cell B1']; rfl
                            have r2 : w1.cell? ⟨w.heap.size + 1, 2, none⟩ = some (.int .i64 0) := by rw [blk_cell B1']; rfl
                            have z := blk_frozen B1'
                            have hz := hB.trans (hx.mono hB.size)
                            clear B1' hx
                            go_wp2_with fail
                            refine bodyPost_ret (v := FV 5 (m : Int) (q : Int)) (by simp [results, Tryz.results42, go_sem, r0, r1, r2]) rfl ⟨?_, ?_⟩
                            · rw [HR.out]; rfl
                            · exact ((hz.setCell (p := ⟨w.heap.size + 1, 0, none⟩) (by simp) _).setCell (p := ⟨w.heap.size + 1, 1, none⟩) (by simp) _).setCell (p := ⟨w.heap.size + 1, 2, none⟩) (by simp) _
                          · have HG1 : Hid (ff (insB len d) (d.ins.drop (q + 1)) (q + 1) = in0 len m d) := by have h := HE.out; rw [hh, if_pos rfl] at h; exact h
                            clear HE
                            go_wp2_with fail
                            refine (insok_any b off len cap m ⟨d, au, cu, ac, cc, ai, ci, an, cn⟩ q v _ k1 hlen (HCC.out.later hB) HV.out (HLX.out.later hB) HOK.out hr0 hr1).mono ?_
                            rw [hh]
                            rintro e w2 ⟨rfl, hx⟩
                            replace hB := hB.trans (hx.mono hB.size)
                            replace B0 : Hid _ := blk_later hx B0.out
                            replace B1 : Hid _ := blk_later hx B1.out
                            replace BF : Hid _ := blk_later hx BF.out
                            clear hx a0
                            go_wp2_with fail
                            go_roundw
                            case rel => exact ⟨q + 1, by omega, by go_num, HG1, hB, B0, B1, BF⟩
                            case measure => simp [intOf]; omega
                        · have hn : in0 len m d = none := by rw [← HG.out]; exact ff_end _ (by omega)
                          have HF1 : Hid (fp (in0 len) ((xs.drop (m + 1)).map FC.d) (m + 1) = fp (in0 len) cs 0) := by have h := HD.out; rw [hn] at h; exact h
                          clear HG HD hn
                          go_wp2_with fail
                          go_roundw
                          case rel => exact ⟨m + 1, by omega, by go_num, HF1, hB, B0, B1⟩
                          case measure => simp [intOf]; omega
                    · have hml : len = m := by omega
                      subst hml
                      have HR : Hid (partsV cs = (0, 0, 0)) := parts_0 HZ.out H2.out H3.out H4.out (by rw [HCL.out, ← HF.out]; exact drop_end (by rw [HL.out]; omega) _)
                      clear HF a0 hm k1
                      have r0 : wr.cell? ⟨w.heap.size + 1, 0, none⟩ = some (.int .i64 0) := by rw [blk_cell B1.out]; rfl
                      have r1 : wr.cell? ⟨w.heap.size + 1, 1, none⟩ = some (.int .i64 0) := by rw [blk_cell B1.out]; rfl
                      have r2 : wr.cell? ⟨w.heap.size + 1, 2, none⟩ = some (.int .i64 0) := by rw [blk_cell B1.out]; rfl
                      have z := blk_frozen B1.out
                      go_wp2_with fail
                      refine bodyPost_ret (v := FV 0 0 0) (by simp [results, Tryz.results42, go_sem, r0, r1, r2]) rfl ⟨?_, ?_⟩
                      · rw [HR.out]; rfl
                      · exact ((hB.setCell (p := ⟨w.heap.size + 1, 0, none⟩) (by simp) _).setCell (p := ⟨w.heap.size + 1, 1, none⟩) (by simp) _).setCell (p := ⟨w.heap.size + 1, 2, none⟩) (by simp) _
end Go.Proofs.YtfkeklndcjkgcaaGreatDoor

/-
  OWN WORK. The specification's CheckShape.
-/
namespace Go.Proofs.YtfkeklndcjkgcaaGreatDoor
open Go.RowKit
attribute [local go_sem] run_store_float
set_option linter.unusedVariables false
set_option linter.unusedSimpArgs false

/-! ### A list of bools in memory -/
def mb (l : List Bool) : Array Value := (l.map Value.bool).toArray
theorem mb_get (l : List Bool) (j : Nat) (h : j < l.length) : (mb l)[j]? = some (.bool (l.getD j false)) := by
  unfold mb
  simp [List.getD_eq_getElem?_getD, List.getElem?_eq_getElem h]
theorem mb_set (l : List Bool) (j : Nat) (b : Bool) : (mb l).setIfInBounds j (.bool b) = mb (l.set j b) := by
  unfold mb
  simp [List.map_set]
theorem make_bool (len : Nat) (hlen : len ≤ 1048576) (w : World) : (Instr.makeSlice 92 (.int .i64 (len : Int)) (.int .i64 (len : Int))).run Tryz.prog w = .ok (.slice (some ⟨w.heap.size, 0, none⟩) len len) (w.alloc (.cells (mb (List.replicate len false)) 4)) := by
  have hc : (Tryz.prog.info? 4).map (fun i => (i.zero, i.size, i.bytes)) = some (some (.bool false), 1, 1) := by kernel_rfl
  cases hi : Tryz.prog.info? 4 with
  | none => rw [hi] at hc; cases hc
  | some i =>
    rw [hi] at hc
    simp only [Option.map_some, Option.some.injEq, Prod.mk.injEq] at hc
    obtain ⟨h1, h2, h3⟩ := hc
    have hr := run_make (P := Tryz.prog) w 92 4 i (.bool false) Tryz.underlying92 hi h1 .i64 .i64 (len : Int) (len : Int) (by omega) (by omega) (by rw [h3]; omega) (by omega)
    have he : madeCells #[.bool false] len = mb (List.replicate len false) := by
      apply Array.toList_inj.1
      rw [toList_madeCells_one]
      simp [mb]
    have hr' := hr
    simp only [Int.toNat_natCast, h2, Nat.mul_one] at hr'
    rw [← he]
    exact hr'

theorem parts_ok {c : List FD} (h : (partsV c).1 = 0) : ¬ badSize c ∧ fp hd0 c 0 = none ∧ fp co0 c 0 = none ∧ fp na0 c 0 = none ∧ fp (in0 c.length) c 0 = none := by
  by_cases hb : badSize c
  · rw [parts_1 hb] at h; cases h
  cases h2 : fp hd0 c 0 with
  | some x => obtain ⟨p, i⟩ := x; rw [parts_2 hb h2] at h; cases h
  | none =>
  cases h3 : fp co0 c 0 with
  | some x => obtain ⟨p, i⟩ := x; rw [parts_3 hb h2 h3] at h; cases h
  | none =>
  cases h4 : fp na0 c 0 with
  | some x => obtain ⟨p, i⟩ := x; rw [parts_4 hb h2 h3 h4] at h; cases h
  | none =>
  cases h5 : fp (in0 c.length) c 0 with
  | some x => obtain ⟨p, i⟩ := x; rw [parts_5 hb h2 h3 h4 h5] at h; cases h
  | none => exact ⟨hb, rfl, rfl, rfl, rfl⟩
theorem ins_ok {c : List FD} (h5 : fp (in0 c.length) c 0 = none) {p : Nat} {f : FD} (hp : c[p]? = some f) {q : Nat} {n : ID} (hq : f.ins[q]? = some n) : insB c.length f q n = true := by
  have := fp_none h5 p f hp
  unfold in0 at this
  split at this
  · cases this
  · have := ff_none this q n hq
    simpa using this
theorem fn_b {np : Nat} {f : FD} {q : Nat} {n : ID} (h : insB np f q n = true) (h11 : n.op = 11) : 0 ≤ n.b ∧ n.b < np := by
  simp only [insB, fieldsB, Bool.and_eq_true] at h
  have h9 := h.1.1.1.2
  rw [h11] at h9
  have hr : rl 11 1 = 9 := rfl
  rw [hr] at h9
  simp [fitsB, lohi, inR] at h9
  omega

theorem f6i_drop {c : List FD} {p : Nat} {f : FD} {mk : List Bool} {ns : List ID} {q : Nat} {n : ID} (h : ns[q]? = some n) : f6i c p f (ns.drop q) q mk = if n.op = 11 then (if fnB c p f n mk = true then f6i c p f (ns.drop (q + 1)) (q + 1) (mk.set n.b.toNat true) else (some q, mk)) else f6i c p f (ns.drop (q + 1)) (q + 1) mk := by
  obtain ⟨hlt, he⟩ := List.getElem?_eq_some_iff.1 h
  rw [List.drop_eq_getElem_cons hlt, he]
  rfl
theorem f6i_end {c : List FD} {p : Nat} {f : FD} {mk : List Bool} {ns : List ID} {q : Nat} (h : ns.length ≤ q) : f6i c p f (ns.drop q) q mk = (none, mk) := by rw [List.drop_of_length_le h]; rfl
theorem f6_drop {c : List FD} {mk : List Bool} {xs : List FC} {m : Nat} {f : FC} (h : xs[m]? = some f) : f6 c ((xs.drop m).map FC.d) m mk = match f6i c m f.d f.d.ins 0 mk with
    | (some i, k) => (some (m, i), k)
    | (none, k) => f6 c ((xs.drop (m + 1)).map FC.d) (m + 1) k := by
  obtain ⟨hlt, he⟩ := List.getElem?_eq_some_iff.1 h
  rw [List.drop_eq_getElem_cons hlt, he]
  rfl
theorem f6_end {c : List FD} {mk : List Bool} {xs : List FC} {m : Nat} (h : xs.length ≤ m) : f6 c ((xs.drop m).map FC.d) m mk = (none, mk) := by rw [List.drop_of_length_le h]; rfl
theorem shape_parts {c : List FD} (h : ¬ (partsV c).1 = 0) : shapeV c = partsV c := by unfold shapeV; rw [if_neg h]
theorem shape_6 {c : List FD} (h : (partsV c).1 = 0) {p i : Nat} {mk : List Bool} (h6 : f6 c c 0 (List.replicate c.length false) = (some (p, i), mk)) : shapeV c = (6, (p : Int), (i : Int)) := by unfold shapeV fnsV; rw [if_pos h, h6]
theorem shape_7 {c : List FD} (h : (partsV c).1 = 0) {mk : List Bool} (h6 : f6 c c 0 (List.replicate c.length false) = (none, mk)) {p : Nat} (h7 : ff (fun _ b => b) (mk.drop 1) 1 = some p) : shapeV c = (7, (p : Int), 0) := by unfold shapeV fnsV; rw [if_pos h, h6]; show (match ff (fun _ b => b) (mk.drop 1) 1 with | some p => ((7 : Int), (p : Int), (0 : Int)) | none => (0, 0, 0)) = _; rw [h7]
theorem shape_0 {c : List FD} (h : (partsV c).1 = 0) {mk : List Bool} (h6 : f6 c c 0 (List.replicate c.length false) = (none, mk)) (h7 : ff (fun _ b => b) (mk.drop 1) 1 = none) : shapeV c = (0, 0, 0) := by unfold shapeV fnsV; rw [if_pos h, h6]; show (match ff (fun _ b => b) (mk.drop 1) 1 with | some p => ((7 : Int), (p : Int), (0 : Int)) | none => (0, 0, 0)) = _; rw [h7]

set_option maxRecDepth 20000 in
set_option maxHeartbeats 8000000 in
theorem shape_any (a : Option Addr) (len cap : Nat) (xs : List FC) (w : World) (H0 : CodeAt w a xs) (hl : xs.length = len) :
    Calls Tryz.prog 22 #[.agg #[.slice a len cap]] w fun e w' => e = .returned (F3V (shapeV (xs.map FC.d))) ∧ Below w.heap.size w w' := by
  have hlen : len ≤ 1048576 := by rw [← hl]; exact H0.len
  have H : Hid (CodeAt w a xs) := H0
  have HL : Hid (xs.length = len) := hl
  obtain ⟨cs, hcs⟩ : ∃ cs, cs = xs.map FC.d := ⟨_, rfl⟩
  have HM : Hid (cs = xs.map FC.d) := hcs
  have HCL : Hid (cs.length = len) := by show cs.length = len; rw [hcs, List.length_map, hl]
  rw [← hcs]
  clear H0 hl hcs
  go_enter Tryz.func22, Tryz.ntmps22
  go_wp2_with fail
  refine (parts_any a len cap xs _ (H.out.later (bw2 _ _ _)) HL.out).mono ?_
  rw [← HM.out]
  rintro e w1 ⟨rfl, hx⟩
  have B0 : Hid (w1.heap[w.heap.size]? = some (CO (.slice a len cap))) := blk_later hx (blk_old (blk_new _ _) _)
  have B1 : Hid (w1.heap[w.heap.size + 1]? = some (FO 0 0 0)) := blk_later hx (blk_newn (by simp) _)
  have hB : Below w.heap.size w w1 := (bw2 _ _ _).trans (hx.mono (by simp; omega))
  clear hx
  obtain ⟨⟨pc, pp, pi⟩, hpv⟩ : ∃ t, t = partsV cs := ⟨_, rfl⟩
  rw [← hpv]
  simp only [F3V]
  by_cases hp0 : pc = 0
  · subst hp0
    have HP0 : Hid ((partsV cs).1 = 0) := by show (partsV cs).1 = 0; rw [← hpv]
    have HP3 : Hid (¬ badSize cs ∧ fp hd0 cs 0 = none ∧ fp co0 cs 0 = none ∧ fp na0 cs 0 = none ∧ fp (in0 cs.length) cs 0 = none) := parts_ok HP0.out
    clear hpv
    have hy := bw1 w1 (FO 0 pp pi)
    have hlt1 := blk_lt B1.out
    have a0 : (w1.alloc (FO 0 pp pi)).cell? ⟨w.heap.size, 0, none⟩ = some (.slice a len cap) := by rw [blk_cell (blk_later hy B0.out)]; rfl
    have hmk := make_bool len hlen (w1.alloc (FO 0 pp pi))
    have hy2 := bw1 (w1.alloc (FO 0 pp pi)) (.cells (mb (List.replicate len false)) 4)
    have a1 := cell_later hy2 a0
    have hBn := below_alloc (below_alloc hB (FO 0 pp pi)) (.cells (mb (List.replicate len false)) 4)
    have B0n : Hid _ := blk_later hy2 (blk_later hy B0.out)
    have B1n : Hid _ := blk_later hy2 (blk_later hy B1.out)
    obtain ⟨g, hg⟩ : ∃ g, g = w1.heap.size + 1 := ⟨_, rfl⟩
    have BMn : Hid (((w1.alloc (FO 0 pp pi)).alloc (.cells (mb (List.replicate len false)) 4)).heap[g]? = some (.cells (mb (List.replicate len false)) 4)) := blk_newn (by rw [hg]; simp) _
    have hg1 : w.heap.size + 1 < g := by omega
    go_wp2_with fail
    rw [← hg]
    clear hg hmk a0 a1 hy hy2 B0 B1 hB hlt1
    go_loopw [23] (fun i wr => ∃ (m : Nat) (mk : List Bool), m ≤ len ∧ i = .int .i64 m ∧ mk.length = len ∧ Hid (f6 cs ((xs.drop m).map FC.d) m mk = f6 cs cs 0 (List.replicate len false)) ∧ Below w.heap.size w wr ∧ Hid (wr.heap[w.heap.size]? = some (CO (.slice a len cap))) ∧ Hid (wr.heap[w.heap.size + 1]? = some (FO 0 0 0)) ∧ Hid (wr.heap[g]? = some (.cells (mb mk) 4))) (fun i _ => len - (intOf i).toNat)
    case atStart => exact ⟨0, List.replicate len false, Nat.zero_le _, rfl, List.length_replicate .., by show f6 cs ((xs.drop 0).map FC.d) 0 _ = _; rw [List.drop_zero, ← HM.out], hBn, B0n, B1n, BMn⟩
    case round =>
      clear hBn B0n B1n BMn
      obtain ⟨m, mk, hm, rfl, hml, HF, hB, B0, B1, BM⟩ := hrel
      by_cases k1 : m < len
      · obtain ⟨f, hf⟩ : ∃ f, xs[m]? = some f := ⟨xs[m]'(by rw [HL.out]; exact k1), by simp⟩
        obtain ⟨b, off, rfl, hb, hc⟩ := H.out.nine hf
        have hok := H.out.ok f (List.mem_of_getElem? hf)
        have HLI : Hid (f.lie w) := H.out.lie f (List.mem_of_getElem? hf)
        have hcm : cs[m]? = some f.d := by rw [HM.out]; exact map_at hf
        obtain ⟨hr0, hr1⟩ := regs_of HP3.out.2.1 hcm
        have HIN : Hid (∀ q n, f.d.ins[q]? = some n → insB len f.d q n = true) := fun q n hq => by have h := ins_ok HP3.out.2.2.2.2 hcm hq; rw [HCL.out] at h; exact h
        have HD : Hid ((match f6i cs m f.d f.d.ins 0 mk with | (some i, k) => (some (m, i), k) | (none, k) => f6 cs ((xs.drop (m + 1)).map FC.d) (m + 1) k) = f6 cs cs 0 (List.replicate len false)) := by have h := HF.out; rw [f6_drop hf] at h; exact h
        clear HF hf hb hcm
        obtain ⟨d, au, cu, ac, cc, ai, ci, an, cn⟩ := f
        obtain ⟨c0, c1, c2, c3, c4, c5, c6, c7, c8⟩ := hc.later hB
        simp only at c0 c1 c2 c3 c4 c5 c6 c7 c8 hok HD hr0 hr1 HIN
        have HLX : Hid (SlA w 5 ID.cells ai d.ins) := HLI.out.i
        have hlx : d.ins.length ≤ 1048576 := hok.li
        have HOK : Hid d.ok := hok
        have HCC : Hid (Cell9 w b (off + m * 9) ⟨d, au, cu, ac, cc, ai, ci, an, cn⟩) := hc
        clear hok hc HLI
        go_wp2_with fail
        clear c0 c1 c2 c3 c4 c5 c6 c7 c8
        go_loopw [31] (fun i wr => ∃ (q : Nat) (mq : List Bool), q ≤ d.ins.length ∧ i = .int .i64 q ∧ mq.length = len ∧ Hid (f6i cs m d (d.ins.drop q) q mq = f6i cs m d d.ins 0 mk) ∧ Below w.heap.size w wr ∧ Hid (wr.heap[w.heap.size]? = some (CO (.slice (some ⟨b, off, none⟩) len cap))) ∧ Hid (wr.heap[w.heap.size + 1]? = some (FO 0 0 0)) ∧ Hid (wr.heap[g]? = some (.cells (mb mq) 4))) (fun i _ => d.ins.length - (intOf i).toNat)
        case atStart => exact ⟨0, mk, Nat.zero_le _, rfl, hml, rfl, below_alloc hB _, blk_old B0.out _, blk_old B1.out _, blk_old BM.out _⟩
        case round =>
          clear hB B0 B1 BM hml
          obtain ⟨q, mq, hq, rfl, hml, HG, hB, B0, B1, BM⟩ := hrel
          by_cases k2 : q < d.ins.length
          · obtain ⟨n, hn⟩ : ∃ n, d.ins[q]? = some n := ⟨d.ins[q]'k2, by simp⟩
            obtain ⟨bi, oi, rfl, _, hci⟩ := HLX.out q n hn
            have hib := HIN.out q n hn
            have HE : Hid ((if n.op = 11 then (if fnB cs m d n mq = true then f6i cs m d (d.ins.drop (q + 1)) (q + 1) (mq.set n.b.toNat true) else (some q, mq)) else f6i cs m d (d.ins.drop (q + 1)) (q + 1) mq) = f6i cs m d d.ins 0 mk) := by have h := HG.out; rw [f6i_drop hn] at h; exact h
            have v1 : wr.cell? ⟨bi, oi + q * 5 + 1, none⟩ = some (.int .i64 n.a) := cell_later hB (hci 1 _ rfl)
            have v3 : wr.cell? ⟨bi, oi + q * 5 + 3, none⟩ = some (.int .i64 n.c) := cell_later hB (hci 3 _ rfl)
            have v4 : wr.cell? ⟨bi, oi + q * 5 + 4, none⟩ = some (.int .i64 n.d) := cell_later hB (hci 4 _ rfl)
            by_cases h11 : n.op = 11
            · obtain ⟨hb0, hb1⟩ := fn_b hib h11
              obtain ⟨nb, hnb⟩ : ∃ nb : Nat, n.b = nb := ⟨n.b.toNat, by omega⟩
              have hnl : nb < len := by omega
              have v0 : wr.cell? ⟨bi, oi + q * 5, none⟩ = some (.int .i64 11) := by rw [← h11]; exact cell_later hB (hci 0 _ rfl)
              have v2 : wr.cell? ⟨bi, oi + q * 5 + 2, none⟩ = some (.int .i64 nb) := by rw [← hnb]; exact cell_later hB (hci 2 _ rfl)
              have hnt : n.b.toNat = nb := by omega
              obtain ⟨k, hk⟩ : ∃ k, xs[nb]? = some k := ⟨xs[nb]'(by rw [HL.out]; exact hnl), by simp⟩
              have hck : cs.getD nb fd0 = k.d := by rw [HM.out, List.getD_eq_getElem?_getD, map_at hk]; rfl
              have HFB : Hid (fnB cs m d n mq = !(decide (nb ≤ m) || mq.getD nb false || !upsB d k.d.ups)) := by show fnB cs m d n mq = _; unfold fnB; rw [hnt, hck, hnb]; simp
              obtain ⟨b2, off2, hbe, _, hck9⟩ := H.out.nine hk
              simp only [Option.some.injEq, Addr.mk.injEq, and_true] at hbe
              obtain ⟨rfl, rfl⟩ := hbe
              have HK9 : Hid (Cell9 w b (off + nb * 9) k) := hck9
              have HKL : Hid (SlA w 2 UD.cells k.au k.d.ups) := (H.out.lie k (List.mem_of_getElem? hk)).u
              have HKO : Hid k.d.ok := H.out.ok k (List.mem_of_getElem? hk)
              rw [hnt, if_pos h11] at HE
              clear hck9 hk hck hnt hib hci hn HG h11 hb0 hb1
              by_cases hle : nb ≤ m
              · have HR : Hid (shapeV cs = (6, (m : Int), (q : Int))) := by
                  have h1 : fnB cs m d n mq = false := by rw [HFB.out]; simp [hle]
                  have h2 := HE.out
                  rw [h1, if_neg (by simp)] at h2
                  have h3 := HD.out
                  rw [← h2] at h3
                  rw [← HCL.out] at h3
                  exact shape_6 HP0.out h3.symm
                go_wp2_with fail
                refine (fault_b _ _ _ _).mono ?_
                rintro e w9 ⟨rfl, hx⟩
                have B1' := blk_later hx (blk_old B1.out _)
                have r0 : w9.cell? ⟨w.heap.size + 1, 0, none⟩ = some (.int .i64 0) := by rw [blk_cell B1']; rfl
                have r1 : w9.cell? ⟨w.heap.size + 1, 1, none⟩ = some (.int .i64 0) := by rw [blk_cell B1']; rfl
                have r2 : w9.cell? ⟨w.heap.size + 1, 2, none⟩ = some (.int .i64 0) := by rw [blk_cell B1']; rfl
                have z := blk_frozen B1'
                have hz := (below_alloc hB _).trans (hx.mono (below_alloc hB _).size)
                clear B1' hx
                go_wp2_with fail
                refine bodyPost_ret (v := FV 6 (m : Int) (q : Int)) (by simp [results, Tryz.results22, go_sem, r0, r1, r2]) rfl ⟨?_, ?_⟩
                · rw [HR.out]; rfl
                · exact ((hz.setCell (p := ⟨w.heap.size + 1, 0, none⟩) (by simp) _).setCell (p := ⟨w.heap.size + 1, 1, none⟩) (by simp) _).setCell (p := ⟨w.heap.size + 1, 2, none⟩) (by simp) _
              · have hy := bw1 wr (.cells #[.int .i64 11, .int .i64 n.a, .int .i64 nb, .int .i64 n.c, .int .i64 n.d] 52)
                have hBa := below_alloc hB (.cells #[.int .i64 11, .int .i64 n.a, .int .i64 nb, .int .i64 n.c, .int .i64 n.d] 52)
                have mc : (wr.alloc (.cells #[.int .i64 11, .int .i64 n.a, .int .i64 nb, .int .i64 n.c, .int .i64 n.d] 52)).cell? ⟨g, nb, none⟩ = some (.bool (mq.getD nb false)) := by rw [blk_cell (blk_later hy BM.out)]; exact mb_get _ _ (by omega)
                have a0 : (wr.alloc (.cells #[.int .i64 11, .int .i64 n.a, .int .i64 nb, .int .i64 n.c, .int .i64 n.d] 52)).cell? ⟨w.heap.size, 0, none⟩ = some (.slice (some ⟨b, off, none⟩) len cap) := by rw [blk_cell (blk_later hy B0.out)]; rfl
                replace B0 : Hid _ := blk_later hy B0.out
                replace B1 : Hid _ := blk_later hy B1.out
                replace BM : Hid _ := blk_later hy BM.out
                clear hy hB
                cases hmd : mq.getD nb false
                · rw [hmd] at mc
                  cases hup : upsB d k.d.ups
                  · skip
                    have HR : Hid (shapeV cs = (6, (m : Int), (q : Int))) := by
                      have h1 : fnB cs m d n mq = false := by rw [HFB.out, hup]; simp
                      have h2 := HE.out
                      rw [h1, if_neg (by simp)] at h2
                      have h3 := HD.out
                      rw [← h2] at h3
                      rw [← HCL.out] at h3
                      exact shape_6 HP0.out h3.symm
                    go_wp2_with fail
                    refine (upsok_any b off len cap m nb ⟨d, au, cu, ac, cc, some ⟨bi, oi, none⟩, ci, an, cn⟩ k _ k1 hnl hlen (HCC.out.later hBa) (HK9.out.later hBa) (HKL.out.later hBa) HOK.out HKO.out hr0 hr1).mono ?_
                    rw [hup]
                    rintro e w2 ⟨rfl, hx⟩
                    have hB := hBa.trans (hx.mono hBa.size)
                    replace B1 : Hid _ := blk_later hx B1.out
                    clear hx mc a0 v0 v1 v2 v3 v4
                    go_wp2_with fail
                    refine (fault_b _ _ _ _).mono ?_
                    rintro e w9 ⟨rfl, hx⟩
                    have B1' := blk_later hx B1.out
                    have r0 : w9.cell? ⟨w.heap.size + 1, 0, none⟩ = some (.int .i64 0) := by rw [blk_cell B1']; rfl
                    have r1 : w9.cell? ⟨w.heap.size + 1, 1, none⟩ = some (.int .i64 0) := by rw [blk_cell B1']; rfl
                    have r2 : w9.cell? ⟨w.heap.size + 1, 2, none⟩ = some (.int .i64 0) := by rw [blk_cell B1']; rfl
                    have z := blk_frozen B1'
                    have hz := hB.trans (hx.mono hB.size)
                    clear B1' hx
                    go_wp2_with fail
                    refine bodyPost_ret (v := FV 6 (m : Int) (q : Int)) (by simp [results, Tryz.results22, go_sem, r0, r1, r2]) rfl ⟨?_, ?_⟩
                    · rw [HR.out]; rfl
                    · exact ((hz.setCell (p := ⟨w.heap.size + 1, 0, none⟩) (by simp) _).setCell (p := ⟨w.heap.size + 1, 1, none⟩) (by simp) _).setCell (p := ⟨w.heap.size + 1, 2, none⟩) (by simp) _
                  · have HG1 : Hid (f6i cs m d (d.ins.drop (q + 1)) (q + 1) (mq.set nb true) = f6i cs m d d.ins 0 mk) := by
                      have h1 : fnB cs m d n mq = true := by rw [HFB.out, hmd, hup]; simp [hle]
                      have h2 := HE.out
                      rw [h1, if_pos rfl] at h2
                      exact h2
                    clear HE HFB HD
                    go_wp2_with fail
                    refine (upsok_any b off len cap m nb ⟨d, au, cu, ac, cc, some ⟨bi, oi, none⟩, ci, an, cn⟩ k _ k1 hnl hlen (HCC.out.later hBa) (HK9.out.later hBa) (HKL.out.later hBa) HOK.out HKO.out hr0 hr1).mono ?_
                    rw [hup]
                    rintro e w2 ⟨rfl, hx⟩
                    have hB := hBa.trans (hx.mono hBa.size)
                    replace B0 : Hid _ := blk_later hx B0.out
                    replace B1 : Hid _ := blk_later hx B1.out
                    replace BM : Hid _ := blk_later hx BM.out
                    have n2 : w2.cell? ⟨wr.heap.size, 2, none⟩ = some (.int .i64 nb) := by rw [blk_cell (blk_later hx (blk_new _ _))]; rfl
                    have mc2 : w2.cell? ⟨g, nb, none⟩ = some (.bool (mq.getD nb false)) := by rw [blk_cell BM.out]; exact mb_get _ _ (by omega)
                    have z := blk_frozen BM.out
                    clear hx mc a0 v0 v1 v2 v3 v4
                    go_wp2_with fail
                    go_roundw
                    case rel => exact ⟨q + 1, mq.set nb true, by omega, by go_num, by rw [List.length_set]; exact hml, HG1, hB.setCell (p := ⟨g, nb, none⟩) (by simp; omega) _, blk_other B0.out (by omega) _ _, blk_other B1.out (by omega) _ _, by have h := blk_set BM.out nb (.bool true); rw [mb_set] at h; exact h⟩
                    case measure => simp [intOf]; omega
                · rw [hmd] at mc
                  have HR : Hid (shapeV cs = (6, (m : Int), (q : Int))) := by
                    have h1 : fnB cs m d n mq = false := by rw [HFB.out, hmd]; simp
                    have h2 := HE.out
                    rw [h1, if_neg (by simp)] at h2
                    have h3 := HD.out
                    rw [← h2] at h3
                    rw [← HCL.out] at h3
                    exact shape_6 HP0.out h3.symm
                  clear a0
                  have B1 : Hid _ := B1.out
                  go_wp2_with fail
                  refine (fault_b _ _ _ _).mono ?_
                  rintro e w9 ⟨rfl, hx⟩
                  have B1' := blk_later hx B1.out
                  have r0 : w9.cell? ⟨w.heap.size + 1, 0, none⟩ = some (.int .i64 0) := by rw [blk_cell B1']; rfl
                  have r1 : w9.cell? ⟨w.heap.size + 1, 1, none⟩ = some (.int .i64 0) := by rw [blk_cell B1']; rfl
                  have r2 : w9.cell? ⟨w.heap.size + 1, 2, none⟩ = some (.int .i64 0) := by rw [blk_cell B1']; rfl
                  have z := blk_frozen B1'
                  have hz := hBa.trans (hx.mono hBa.size)
                  clear B1' hx
                  go_wp2_with fail
                  refine bodyPost_ret (v := FV 6 (m : Int) (q : Int)) (by simp [results, Tryz.results22, go_sem, r0, r1, r2]) rfl ⟨?_, ?_⟩
                  · rw [HR.out]; rfl
                  · exact ((hz.setCell (p := ⟨w.heap.size + 1, 0, none⟩) (by simp) _).setCell (p := ⟨w.heap.size + 1, 1, none⟩) (by simp) _).setCell (p := ⟨w.heap.size + 1, 2, none⟩) (by simp) _
            · have v0 : wr.cell? ⟨bi, oi + q * 5, none⟩ = some (.int .i64 n.op) := cell_later hB (hci 0 _ rfl)
              have v2 : wr.cell? ⟨bi, oi + q * 5 + 2, none⟩ = some (.int .i64 n.b) := cell_later hB (hci 2 _ rfl)
              have h11' : (n.op != 11) = true := by simpa using h11
              have HG1 : Hid (f6i cs m d (d.ins.drop (q + 1)) (q + 1) mq = f6i cs m d d.ins 0 mk) := by have h2 := HE.out; rw [if_neg h11] at h2; exact h2
              clear HE HG hn hci hib HD
              go_wp2_with fail
              go_roundw
              case rel => exact ⟨q + 1, mq, by omega, by go_num, hml, HG1, below_alloc hB _, blk_old B0.out _, blk_old B1.out _, blk_old BM.out _⟩
              case measure => simp [intOf]; omega
          · have HF1 : Hid (f6 cs ((xs.drop (m + 1)).map FC.d) (m + 1) mq = f6 cs cs 0 (List.replicate len false)) := by
              have h1 := HG.out
              rw [f6i_end (by omega)] at h1
              have h2 := HD.out
              rw [← h1] at h2
              exact h2
            clear HG HD
            go_wp2_with fail
            go_roundw
            case rel => exact ⟨m + 1, mq, by omega, by go_num, hml, HF1, hB, B0, B1, BM⟩
            case measure => simp [intOf]; omega
      · have H6 : Hid (f6 cs cs 0 (List.replicate cs.length false) = (none, mk)) := by show f6 cs cs 0 _ = _; rw [HCL.out, ← HF.out, f6_end (by rw [HL.out]; omega)]
        have hlen1 : 1 ≤ len := by
          have h := HP3.out.1
          unfold badSize at h
          rw [HCL.out] at h
          omega
        clear HF
        have hml' : len = m := by omega
        clear hm k1
        have a0 : wr.cell? ⟨w.heap.size, 0, none⟩ = some (.slice a len cap) := by rw [blk_cell B0.out]; rfl
        go_wp2_with fail
        clear a0
        go_loopw [9] (fun i wr => ∃ p : Nat, p ≤ len ∧ 1 ≤ p ∧ i = .int .i64 p ∧ Hid (ff (fun _ b => b) (mk.drop p) p = ff (fun _ b => b) (mk.drop 1) 1) ∧ Below w.heap.size w wr ∧ Hid (wr.heap[w.heap.size]? = some (CO (.slice a len cap))) ∧ Hid (wr.heap[w.heap.size + 1]? = some (FO 0 0 0)) ∧ Hid (wr.heap[g]? = some (.cells (mb mk) 4))) (fun i _ => len - (intOf i).toNat)
        case atStart => exact ⟨1, hlen1, by omega, rfl, rfl, hB, B0, B1, BM⟩
        case round =>
          clear hB B0 B1 BM
          obtain ⟨p, hp, hp1, rfl, HF, hB, B0, B1, BM⟩ := hrel
          have a0 : wr.cell? ⟨w.heap.size, 0, none⟩ = some (.slice a len cap) := by rw [blk_cell B0.out]; rfl
          by_cases k1 : p < len
          · have hpm : mk[p]? = some (mk.getD p false) := by rw [List.getD_eq_getElem?_getD, List.getElem?_eq_getElem (by omega)]; rfl
            have mc : wr.cell? ⟨g, p, none⟩ = some (.bool (mk.getD p false)) := by rw [blk_cell BM.out]; exact mb_get _ _ (by omega)
            have HE : Hid ((if mk.getD p false = true then ff (fun _ b => b) (mk.drop (p + 1)) (p + 1) else some p) = ff (fun _ b => b) (mk.drop 1) 1) := by have h := HF.out; rw [ff_drop _ hpm] at h; exact h
            clear HF hpm
            cases hmd : mk.getD p false
            · rw [hmd] at mc
              have HR : Hid (shapeV cs = (7, (p : Int), 0)) := shape_7 HP0.out H6.out (by have h := HE.out; rw [hmd, if_neg (by simp)] at h; exact h.symm)
              go_wp2_with fail
              refine (fault_b _ _ _ _).mono ?_
              rintro e w9 ⟨rfl, hx⟩
              have B1' := blk_later hx B1.out
              have r0 : w9.cell? ⟨w.heap.size + 1, 0, none⟩ = some (.int .i64 0) := by rw [blk_cell B1']; rfl
              have r1 : w9.cell? ⟨w.heap.size + 1, 1, none⟩ = some (.int .i64 0) := by rw [blk_cell B1']; rfl
              have r2 : w9.cell? ⟨w.heap.size + 1, 2, none⟩ = some (.int .i64 0) := by rw [blk_cell B1']; rfl
              have z := blk_frozen B1'
              have hz := hB.trans (hx.mono hB.size)
              clear B1' hx
              go_wp2_with fail
              refine bodyPost_ret (v := FV 7 (p : Int) 0) (by simp [results, Tryz.results22, go_sem, r0, r1, r2]) rfl ⟨?_, ?_⟩
              · rw [HR.out]; rfl
              · exact ((hz.setCell (p := ⟨w.heap.size + 1, 0, none⟩) (by simp) _).setCell (p := ⟨w.heap.size + 1, 1, none⟩) (by simp) _).setCell (p := ⟨w.heap.size + 1, 2, none⟩) (by simp) _
            · rw [hmd] at mc
              have HF1 : Hid (ff (fun _ b => b) (mk.drop (p + 1)) (p + 1) = ff (fun _ b => b) (mk.drop 1) 1) := by have h := HE.out; rw [hmd, if_pos rfl] at h; exact h
              clear HE
              go_wp2_with fail
              go_roundw
              case rel => exact ⟨p + 1, by omega, by omega, by go_num, HF1, hB, B0, B1, BM⟩
              case measure => simp [intOf]; omega
          · have HR : Hid (shapeV cs = (0, 0, 0)) := shape_0 HP0.out H6.out (by rw [← HF.out]; exact ff_end _ (by omega))
            clear HF
            have r0 : wr.cell? ⟨w.heap.size + 1, 0, none⟩ = some (.int .i64 0) := by rw [blk_cell B1.out]; rfl
            have r1 : wr.cell? ⟨w.heap.size + 1, 1, none⟩ = some (.int .i64 0) := by rw [blk_cell B1.out]; rfl
            have r2 : wr.cell? ⟨w.heap.size + 1, 2, none⟩ = some (.int .i64 0) := by rw [blk_cell B1.out]; rfl
            have z := blk_frozen B1.out
            go_wp2_with fail
            refine bodyPost_ret (v := FV 0 0 0) (by simp [results, Tryz.results22, go_sem, r0, r1, r2]) rfl ⟨?_, ?_⟩
            · rw [HR.out]; rfl
            · exact ((hB.setCell (p := ⟨w.heap.size + 1, 0, none⟩) (by simp) _).setCell (p := ⟨w.heap.size + 1, 1, none⟩) (by simp) _).setCell (p := ⟨w.heap.size + 1, 2, none⟩) (by simp) _
  · have hpc : (pc != 0) = true := by simpa using hp0
    have HR : Hid (shapeV cs = (pc, pp, pi)) := by show shapeV cs = _; rw [shape_parts (by rw [← hpv]; exact hp0), ← hpv]
    have hy := bw1 w1 (FO pc pp pi)
    have B1' := blk_later hy B1.out
    have r0 : (w1.alloc (FO pc pp pi)).cell? ⟨w.heap.size + 1, 0, none⟩ = some (.int .i64 0) := by rw [blk_cell B1']; rfl
    have r1 : (w1.alloc (FO pc pp pi)).cell? ⟨w.heap.size + 1, 1, none⟩ = some (.int .i64 0) := by rw [blk_cell B1']; rfl
    have r2 : (w1.alloc (FO pc pp pi)).cell? ⟨w.heap.size + 1, 2, none⟩ = some (.int .i64 0) := by rw [blk_cell B1']; rfl
    have z := blk_frozen B1'
    have hz := hB.trans (hy.mono hB.size)
    clear B1' hy hp0 hpv
    go_wp2_with fail
    refine bodyPost_ret (v := FV pc pp pi) (by simp [results, Tryz.results22, go_sem, r0, r1, r2]) rfl ⟨?_, ?_⟩
    · rw [HR.out]; rfl
    · exact ((hz.setCell (p := ⟨w.heap.size + 1, 0, none⟩) (by simp) _).setCell (p := ⟨w.heap.size + 1, 1, none⟩) (by simp) _).setCell (p := ⟨w.heap.size + 1, 2, none⟩) (by simp) _
end Go.Proofs.YtfkeklndcjkgcaaGreatDoor
