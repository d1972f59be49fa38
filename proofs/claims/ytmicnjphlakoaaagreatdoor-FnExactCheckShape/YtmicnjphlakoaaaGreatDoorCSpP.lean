/-
  OWN WORK. The specification's shape: codes 1 to 5.
-/
import Derived.Test.YtmicnjphlakoaaaGreatDoorCSpU
namespace Go.Proofs.YtmicnjphlakoaaaGreatDoor
open Go.RowKit
attribute [local go_sem] run_store_float
set_option linter.unusedVariables false
set_option linter.unusedSimpArgs false

theorem fault_b (c p i : Int) (w : World) : Calls Tryz.prog 13 #[.int .i64 c, .int .i64 p, .int .i64 i] w fun e w' => e = .returned (FV c p i) ∧ Below w.heap.size w w' :=
  (fault_any c p i w).mono fun e w' h => ⟨h.1, h.2 ▸ bw1 _ _⟩
/-- A fault, as a value. -/
def F3V (t : F3) : Value := FV t.1 t.2.1 t.2.2

def badSize (c : List FD) : Prop := c.length = 0 ∨ 200 < c.length ∨ 6000 < total c
theorem parts_1 {c : List FD} (h : badSize c) : partsV c = (1, 0, 0) := by unfold badSize at h; unfold partsV; rw [if_pos h]
theorem parts_2 {c : List FD} (h : ¬ badSize c) {p i : Nat} (h2 : fp hd0 c 0 = some (p, i)) : partsV c = (2, (p : Int), (i : Int)) := by unfold badSize at h; unfold partsV; rw [if_neg h, h2]
theorem parts_3 {c : List FD} (h : ¬ badSize c) (h2 : fp hd0 c 0 = none) {p i : Nat} (h3 : fp co0 c 0 = some (p, i)) : partsV c = (3, (p : Int), (i : Int)) := by unfold badSize at h; unfold partsV; rw [if_neg h, h2, h3]
theorem parts_4 {c : List FD} (h : ¬ badSize c) (h2 : fp hd0 c 0 = none) (h3 : fp co0 c 0 = none) {p i : Nat} (h4 : fp na0 c 0 = some (p, i)) : partsV c = (4, (p : Int), (i : Int)) := by unfold badSize at h; unfold partsV; rw [if_neg h, h2, h3, h4]
theorem parts_5 {c : List FD} (h : ¬ badSize c) (h2 : fp hd0 c 0 = none) (h3 : fp co0 c 0 = none) (h4 : fp na0 c 0 = none) {p i : Nat} (h5 : fp (in0 c.length) c 0 = some (p, i)) : partsV c = (5, (p : Int), (i : Int)) := by unfold badSize at h; unfold partsV; rw [if_neg h, h2, h3, h4, h5]
theorem parts_0 {c : List FD} (h : ¬ badSize c) (h2 : fp hd0 c 0 = none) (h3 : fp co0 c 0 = none) (h4 : fp na0 c 0 = none) (h5 : fp (in0 c.length) c 0 = none) : partsV c = (0, 0, 0) := by unfold badSize at h; unfold partsV; rw [if_neg h, h2, h3, h4, h5]
theorem regs_of {c : List FD} (h2 : fp hd0 c 0 = none) {p : Nat} {f : FD} (hp : c[p]? = some f) : 0 ≤ f.regs ∧ f.regs ≤ 250 := by
  have := fp_none h2 p f hp
  unfold hd0 at this
  split at this
  · rename_i h
    simp only [headB, Bool.and_eq_true] at h
    have := h.1.1.1.1.2
    simpa [inR] using this
  · cases this
theorem map_at {xs : List FC} {m : Nat} {f : FC} (h : xs[m]? = some f) : (xs.map FC.d)[m]? = some f.d := by simp [h]
theorem drop_end {xs : List FC} {m : Nat} (h : xs.length ≤ m) (inner : Nat → FD → Option Nat) : fp inner ((xs.drop m).map FC.d) m = none := by rw [List.drop_of_length_le h]; rfl
theorem ff_end {α : Type} (ok : Nat → α → Bool) {xs : List α} {m : Nat} (h : xs.length ≤ m) : ff ok (xs.drop m) m = none := by rw [List.drop_of_length_le h]; rfl
theorem sum_take {xs : List FC} {m : Nat} {f : FC} (h : xs[m]? = some f) : ((xs.take (m + 1)).map fun x => x.d.ins.length).sum = ((xs.take m).map fun x => x.d.ins.length).sum + f.d.ins.length := by
  obtain ⟨hlt, he⟩ := List.getElem?_eq_some_iff.1 h
  rw [List.take_add_one, h]
  simp
theorem sum_le {xs : List FC} (m : Nat) : ((xs.take m).map fun x => x.d.ins.length).sum ≤ (xs.map fun x => x.d.ins.length).sum := by
  conv => rhs; rw [← List.take_append_drop m xs]
  rw [List.map_append, List.sum_append]
  omega
theorem total_eq (xs : List FC) : total (xs.map FC.d) = (xs.map fun x => x.d.ins.length).sum := by unfold total; rw [List.map_map]; rfl

set_option maxRecDepth 20000 in
set_option maxHeartbeats 8000000 in
theorem parts_any (a : Option Addr) (len cap : Nat) (xs : List FC) (w : World) (H0 : CodeAt w a xs) (hl : xs.length = len) :
    Calls Tryz.prog 11 #[.agg #[.slice a len cap]] w fun e w' => e = .returned (F3V (partsV (xs.map FC.d))) ∧ Below w.heap.size w w' := by
  have hlen : len ≤ 1048576 := by rw [← hl]; exact H0.len
  have H : Hid (CodeAt w a xs) := H0
  have HL : Hid (xs.length = len) := hl
  obtain ⟨cs, hcs⟩ : ∃ cs, cs = xs.map FC.d := ⟨_, rfl⟩
  have HM : Hid (cs = xs.map FC.d) := hcs
  have HCL : Hid (cs.length = len) := by show cs.length = len; rw [hcs, List.length_map, hl]
  rw [← hcs]
  clear H0 hl hcs
  go_enter Tryz.func11, Tryz.ntmps11
  go_wp2_with fail
  go_loopw [3, 20] (fun t i wr => ∃ (m s : Nat), m ≤ len ∧ i = .int .i64 m ∧ t = .int .i64 s ∧ s ≤ 1048576 ∧ Hid (s = ((xs.take m).map fun x => x.d.ins.length).sum) ∧ Below w.heap.size w wr ∧ Hid (wr.heap[w.heap.size]? = some (CO (.slice a len cap))) ∧ Hid (wr.heap[w.heap.size + 1]? = some (FO 0 0 0))) (fun _ i _ => len - (intOf i).toNat)
  case atStart => exact ⟨0, 0, Nat.zero_le _, rfl, rfl, by omega, rfl, bw2 _ _ _, blk_old (blk_new _ _) _, blk_newn (by simp) _⟩
  case round =>
    obtain ⟨m, s, hm, rfl, rfl, hs, HS, hB, B0, B1⟩ := hrel
    have a0 : wr.cell? ⟨w.heap.size, 0, none⟩ = some (.slice a len cap) := by rw [blk_cell B0.out]; rfl
    by_cases k1 : m < len
    · obtain ⟨f, hf⟩ : ∃ f, xs[m]? = some f := ⟨xs[m]'(by rw [HL.out]; exact k1), by simp⟩
      obtain ⟨b, off, rfl, hb, hc⟩ := H.out.nine hf
      obtain ⟨c0, c1, c2, c3, c4, c5, c6, c7, c8⟩ := hc.later hB
      have hst : s + f.d.ins.length ≤ 1048576 := by
        have h1 := sum_take hf
        have h2 := sum_le (xs := xs) (m + 1)
        have h3 := H.out.all
        have h4 := HS.out
        omega
      have HS1 : Hid (s + f.d.ins.length = ((xs.take (m + 1)).map fun x => x.d.ins.length).sum) := by show s + f.d.ins.length = _; rw [sum_take hf, ← HS.out]
      clear hf hc hb HS
      go_wp2_with fail
      go_roundw
      case rel => exact ⟨m + 1, s + f.d.ins.length, by omega, by go_num, by go_num, by omega, HS1, below_alloc hB _, blk_old B0.out _, blk_old B1.out _⟩
      case measure => simp [intOf]; omega
    · have hml : len = m := by omega
      subst hml
      have hst : s = total cs := by
        rw [HM.out, total_eq, HS.out, List.take_of_length_le (by rw [HL.out]; omega)]
      clear HS
      by_cases hz : len = 0
      · have HR : Hid (partsV cs = (1, 0, 0)) := parts_1 (.inl (by rw [HCL.out]; exact hz))
        have hz' : (len : Int) = 0 := by omega
        have hz'' : ((len : Int) == 0) = true := by simpa using hz'
        go_wp2_with fail
        refine (fault_b _ _ _ _).mono ?_
        rintro e w1 ⟨rfl, hx⟩
        have B1' := blk_later hx B1.out
        have r0 : w1.cell? ⟨w.heap.size + 1, 0, none⟩ = some (.int .i64 0) := by rw [blk_cell B1']; rfl
        have r1 : w1.cell? ⟨w.heap.size + 1, 1, none⟩ = some (.int .i64 0) := by rw [blk_cell B1']; rfl
        have r2 : w1.cell? ⟨w.heap.size + 1, 2, none⟩ = some (.int .i64 0) := by rw [blk_cell B1']; rfl
        have z := blk_frozen B1'
        have hz := hB.trans (hx.mono hB.size)
        clear B1' hx
        go_wp2_with fail
        refine bodyPost_ret (v := FV 1 0 0) (by simp [results, Tryz.results11, go_sem, r0, r1, r2]) rfl ⟨?_, ?_⟩
        · rw [HR.out]; rfl
        · exact ((hz.setCell (p := ⟨w.heap.size + 1, 0, none⟩) (by simp) _).setCell (p := ⟨w.heap.size + 1, 1, none⟩) (by simp) _).setCell (p := ⟨w.heap.size + 1, 2, none⟩) (by simp) _
      have hz' : ((len : Int) == 0) = false := by simpa using hz
      by_cases hz2 : 200 < len
      · have HR : Hid (partsV cs = (1, 0, 0)) := parts_1 (.inr (.inl (by rw [HCL.out]; exact hz2)))
        go_wp2_with fail
        refine (fault_b _ _ _ _).mono ?_
        rintro e w1 ⟨rfl, hx⟩
        have B1' := blk_later hx B1.out
        have r0 : w1.cell? ⟨w.heap.size + 1, 0, none⟩ = some (.int .i64 0) := by rw [blk_cell B1']; rfl
        have r1 : w1.cell? ⟨w.heap.size + 1, 1, none⟩ = some (.int .i64 0) := by rw [blk_cell B1']; rfl
        have r2 : w1.cell? ⟨w.heap.size + 1, 2, none⟩ = some (.int .i64 0) := by rw [blk_cell B1']; rfl
        have z := blk_frozen B1'
        have hz := hB.trans (hx.mono hB.size)
        clear B1' hx
        go_wp2_with fail
        refine bodyPost_ret (v := FV 1 0 0) (by simp [results, Tryz.results11, go_sem, r0, r1, r2]) rfl ⟨?_, ?_⟩
        · rw [HR.out]; rfl
        · exact ((hz.setCell (p := ⟨w.heap.size + 1, 0, none⟩) (by simp) _).setCell (p := ⟨w.heap.size + 1, 1, none⟩) (by simp) _).setCell (p := ⟨w.heap.size + 1, 2, none⟩) (by simp) _
      by_cases hz3 : 6000 < s
      · have HR : Hid (partsV cs = (1, 0, 0)) := parts_1 (.inr (.inr (by rw [← hst]; exact hz3)))
        go_wp2_with fail
        refine (fault_b _ _ _ _).mono ?_
        rintro e w1 ⟨rfl, hx⟩
        have B1' := blk_later hx B1.out
        have r0 : w1.cell? ⟨w.heap.size + 1, 0, none⟩ = some (.int .i64 0) := by rw [blk_cell B1']; rfl
        have r1 : w1.cell? ⟨w.heap.size + 1, 1, none⟩ = some (.int .i64 0) := by rw [blk_cell B1']; rfl
        have r2 : w1.cell? ⟨w.heap.size + 1, 2, none⟩ = some (.int .i64 0) := by rw [blk_cell B1']; rfl
        have z := blk_frozen B1'
        have hz := hB.trans (hx.mono hB.size)
        clear B1' hx
        go_wp2_with fail
        refine bodyPost_ret (v := FV 1 0 0) (by simp [results, Tryz.results11, go_sem, r0, r1, r2]) rfl ⟨?_, ?_⟩
        · rw [HR.out]; rfl
        · exact ((hz.setCell (p := ⟨w.heap.size + 1, 0, none⟩) (by simp) _).setCell (p := ⟨w.heap.size + 1, 1, none⟩) (by simp) _).setCell (p := ⟨w.heap.size + 1, 2, none⟩) (by simp) _
      have HZ : Hid (¬ badSize cs) := by
        intro h
        rcases h with h | h | h
        · rw [HCL.out] at h; exact hz h
        · rw [HCL.out] at h; exact hz2 h
        · rw [← hst] at h; exact hz3 h
      clear hst
      go_wp2_with fail
      clear a0 hz hz' hz2 hz3 hs hm k1
      go_loopw [48] (fun i wr => ∃ m : Nat, m ≤ len ∧ i = .int .i64 m ∧ Hid (fp hd0 ((xs.drop m).map FC.d) m = fp hd0 cs 0) ∧ Below w.heap.size w wr ∧ Hid (wr.heap[w.heap.size]? = some (CO (.slice a len cap))) ∧ Hid (wr.heap[w.heap.size + 1]? = some (FO 0 0 0))) (fun i _ => len - (intOf i).toNat)
      case atStart => exact ⟨0, Nat.zero_le _, rfl, by show fp hd0 ((xs.drop 0).map FC.d) 0 = _; rw [HM.out, List.drop_zero], hB, B0, B1⟩
      case round =>
        obtain ⟨m, hm, rfl, HF, hB, B0, B1⟩ := hrel
        have a0 : wr.cell? ⟨w.heap.size, 0, none⟩ = some (.slice a len cap) := by rw [blk_cell B0.out]; rfl
        by_cases k1 : m < len
        · obtain ⟨f, hf⟩ : ∃ f, xs[m]? = some f := ⟨xs[m]'(by rw [HL.out]; exact k1), by simp⟩
          obtain ⟨b, off, rfl, hb, hc⟩ := H.out.nine hf
          have hok := H.out.ok f (List.mem_of_getElem? hf)
          have HLI : Hid (f.lie w) := H.out.lie f (List.mem_of_getElem? hf)
          have HD : Hid ((match hd0 m f.d with | some j => some (m, j) | none => fp hd0 ((xs.drop (m + 1)).map FC.d) (m + 1)) = fp hd0 cs 0) := by have h := HF.out; rw [fp_drop _ hf] at h; exact h
          clear HF hf hb
          cases hh : headB m f.d
          · have HR : Hid (partsV cs = (2, (m : Int), ((0 : Nat) : Int))) := parts_2 HZ.out (by rw [← HD.out]; simp [hd0, hh])
            go_wp2_with fail
            refine (head_any b off len cap m f _ k1 hlen (hc.later hB) hok).mono ?_
            rw [hh]
            rintro e w2 ⟨rfl, hx⟩
            replace hB := hB.trans (hx.mono hB.size); replace B0 : Hid _ := blk_later hx B0.out; replace B1 : Hid _ := blk_later hx B1.out
            clear hx a0
            go_wp2_with fail
            refine (fault_b _ _ _ _).mono ?_
            rintro e w1 ⟨rfl, hx⟩
            have B1' := blk_later hx B1.out
            have r0 : w1.cell? ⟨w.heap.size + 1, 0, none⟩ = some (.int .i64 0) := by rw [blk_cell B1']; rfl
            have r1 : w1.cell? ⟨w.heap.size + 1, 1, none⟩ = some (.int .i64 0) := by rw [blk_cell B1']; rfl
            have r2 : w1.cell? ⟨w.heap.size + 1, 2, none⟩ = some (.int .i64 0) := by rw [blk_cell B1']; rfl
            have z := blk_frozen B1'
            have hz := hB.trans (hx.mono hB.size)
            clear B1' hx
            go_wp2_with fail
            refine bodyPost_ret (v := FV 2 (m : Int) 0) (by simp [results, Tryz.results11, go_sem, r0, r1, r2]) rfl ⟨?_, ?_⟩
            · rw [HR.out]; rfl
            · exact ((hz.setCell (p := ⟨w.heap.size + 1, 0, none⟩) (by simp) _).setCell (p := ⟨w.heap.size + 1, 1, none⟩) (by simp) _).setCell (p := ⟨w.heap.size + 1, 2, none⟩) (by simp) _
          · have HF1 : Hid (fp hd0 ((xs.drop (m + 1)).map FC.d) (m + 1) = fp hd0 cs 0) := by have h := HD.out; rw [show hd0 m f.d = none by simp [hd0, hh]] at h; exact h
            clear HD
            go_wp2_with fail
            refine (head_any b off len cap m f _ k1 hlen (hc.later hB) hok).mono ?_
            rw [hh]
            rintro e w2 ⟨rfl, hx⟩
            replace hB := hB.trans (hx.mono hB.size); replace B0 : Hid _ := blk_later hx B0.out; replace B1 : Hid _ := blk_later hx B1.out
            clear hx a0
            go_wp2_with fail
            go_roundw
            case rel => exact ⟨m + 1, by omega, by go_num, HF1, hB, B0, B1⟩
            case measure => simp [intOf]; omega
        · have hml : len = m := by omega
          subst hml
          have H2 : Hid (fp hd0 cs 0 = none) := by show fp hd0 cs 0 = none; rw [← HF.out]; exact drop_end (by rw [HL.out]; omega) _
          clear HF a0 hm k1
          have a0 : wr.cell? ⟨w.heap.size, 0, none⟩ = some (.slice a len cap) := by rw [blk_cell B0.out]; rfl
          go_wp2_with fail
          clear a0
          go_loopw [61] (fun i wr => ∃ m : Nat, m ≤ len ∧ i = .int .i64 m ∧ Hid (fp co0 ((xs.drop m).map FC.d) m = fp co0 cs 0) ∧ Below w.heap.size w wr ∧ Hid (wr.heap[w.heap.size]? = some (CO (.slice a len cap))) ∧ Hid (wr.heap[w.heap.size + 1]? = some (FO 0 0 0))) (fun i _ => len - (intOf i).toNat)
          case atStart => exact ⟨0, Nat.zero_le _, rfl, by show fp co0 ((xs.drop 0).map FC.d) 0 = _; rw [HM.out, List.drop_zero], hB, B0, B1⟩
          case round =>
            obtain ⟨m, hm, rfl, HF, hB, B0, B1⟩ := hrel
            have a0 : wr.cell? ⟨w.heap.size, 0, none⟩ = some (.slice a len cap) := by rw [blk_cell B0.out]; rfl
            by_cases k1 : m < len
            · obtain ⟨f, hf⟩ : ∃ f, xs[m]? = some f := ⟨xs[m]'(by rw [HL.out]; exact k1), by simp⟩
              obtain ⟨b, off, rfl, hb, hc⟩ := H.out.nine hf
              have hok := H.out.ok f (List.mem_of_getElem? hf)
              have HLI : Hid (f.lie w) := H.out.lie f (List.mem_of_getElem? hf)
              have HD : Hid ((match co0 m f.d with | some j => some (m, j) | none => fp co0 ((xs.drop (m + 1)).map FC.d) (m + 1)) = fp co0 cs 0) := by have h := HF.out; rw [fp_drop _ hf] at h; exact h
              clear HF hf hb
              obtain ⟨d, au, cu, ac, cc, ai, ci, an, cn⟩ := f
              obtain ⟨c0, c1, c2, c3, c4, c5, c6, c7, c8⟩ := hc.later hB
              simp only at c0 c1 c2 c3 c4 c5 c6 c7 c8 hok HD
              have HLX : Hid (SlA w 5 VD.cells ac d.consts) := HLI.out.c
              have hlx : d.consts.length ≤ 1048576 := hok.lc
              have HOK : Hid d.ok := hok
              have HCC : Hid (Cell9 w b (off + m * 9) ⟨d, au, cu, ac, cc, ai, ci, an, cn⟩) := hc
              clear hok hc HLI
              go_wp2_with fail
              obtain ⟨g, hg⟩ : ∃ g, g = wr.heap.size := ⟨_, rfl⟩
              have BF : Hid ((wr.alloc (PO ⟨d, au, cu, ac, cc, ai, ci, an, cn⟩)).heap[g]? = some (PO ⟨d, au, cu, ac, cc, ai, ci, an, cn⟩)) := blk_newn hg.symm _
              rw [← hg]
              clear hg c0 c1 c2 c3 c4 c5 c6 c7 c8 a0
              go_loopw [69] (fun i wi => ∃ q : Nat, q ≤ d.consts.length ∧ i = .int .i64 q ∧ Hid (ff (fun _ => constB) (d.consts.drop q) q = co0 m d) ∧ Below w.heap.size w wi ∧ Hid (wi.heap[w.heap.size]? = some (CO (.slice (some ⟨b, off, none⟩) len cap))) ∧ Hid (wi.heap[w.heap.size + 1]? = some (FO 0 0 0)) ∧ Hid (wi.heap[g]? = some (PO ⟨d, au, cu, ac, cc, ai, ci, an, cn⟩))) (fun i _ => d.consts.length - (intOf i).toNat)
              case atStart => exact ⟨0, Nat.zero_le _, rfl, rfl, below_alloc hB _, blk_old B0.out _, blk_old B1.out _, BF⟩
              case round =>
                obtain ⟨q, hq, rfl, HG, hB, B0, B1, BF⟩ := hrel
                by_cases k2 : q < d.consts.length
                · obtain ⟨v, hv⟩ : ∃ v, d.consts[q]? = some v := ⟨d.consts[q]'k2, by simp⟩
                  obtain ⟨bc, oc, rfl, _, hcv⟩ := HLX.out q v hv
                  have v0 : wr.cell? ⟨bc, oc + q * 5, none⟩ = some (.int .i64 v.k) := cell_later hB (hcv 0 _ rfl)
                  have v1 : wr.cell? ⟨bc, oc + q * 5 + 1, none⟩ = some (.int .i64 v.n) := cell_later hB (hcv 1 _ rfl)
                  have v2 : wr.cell? ⟨bc, oc + q * 5 + 2, none⟩ = some (.float .f64 v.f) := cell_later hB (hcv 2 _ rfl)
                  have v3 : wr.cell? ⟨bc, oc + q * 5 + 3, none⟩ = some (.string v.s) := cell_later hB (hcv 3 _ rfl)
                  have v4 : wr.cell? ⟨bc, oc + q * 5 + 4, none⟩ = some (.int .i64 v.r) := cell_later hB (hcv 4 _ rfl)
                  have hvok := HOK.out.c v (List.mem_of_getElem? hv)
                  have HV : Hid (d.consts[q]? = some v) := hv
                  have HE : Hid ((if constB v = true then ff (fun _ => constB) (d.consts.drop (q + 1)) (q + 1) else some q) = co0 m d) := by have h := HG.out; rw [ff_drop _ hv] at h; exact h
                  clear HG hv hcv
                  cases hh : constB v
                  · have HR : Hid (partsV cs = (3, (m : Int), (q : Int))) := parts_3 HZ.out H2.out (by rw [← HD.out]; have h := HE.out; rw [hh, if_neg (by simp)] at h; rw [← h])
                    go_wp2_with fail
                    refine (const_any v _ hvok).mono ?_
                    rw [hh]
                    rintro e w2 ⟨rfl, hx⟩
                    have hy := below_alloc hB (.cells #[.int .i64 v.k, .int .i64 v.n, .float .f64 v.f, .string v.s, .int .i64 v.r] 64)
                    replace hB := hy.trans (hx.mono hy.size)
                    replace B0 : Hid _ := blk_later hx (blk_old B0.out _)
                    replace B1 : Hid _ := blk_later hx (blk_old B1.out _)
                    replace BF : Hid _ := blk_later hx (blk_old BF.out _)
                    clear hx hy v0 v1 v2 v3 v4
                    go_wp2_with fail
                    refine (fault_b _ _ _ _).mono ?_
                    rintro e w1 ⟨rfl, hx⟩
                    have B1' := blk_later hx B1.out
                    have r0 : w1.cell? ⟨w.heap.size + 1, 0, none⟩ = some (.int .i64 0) := by rw [blk_cell B1']; rfl
                    have r1 : w1.cell? ⟨w.heap.size + 1, 1, none⟩ = some (.int .i64 0) := by rw [blk_cell B1']; rfl
                    have r2 : w1.cell? ⟨w.heap.size + 1, 2, none⟩ = some (.int .i64 0) := by rw [blk_cell B1']; rfl
                    have z := blk_frozen B1'
                    have hz := hB.trans (hx.mono hB.size)
                    clear B1' hx
                    go_wp2_with fail
                    refine bodyPost_ret (v := FV 3 (m : Int) (q : Int)) (by simp [results, Tryz.results11, go_sem, r0, r1, r2]) rfl ⟨?_, ?_⟩
                    · rw [HR.out]; rfl
                    · exact ((hz.setCell (p := ⟨w.heap.size + 1, 0, none⟩) (by simp) _).setCell (p := ⟨w.heap.size + 1, 1, none⟩) (by simp) _).setCell (p := ⟨w.heap.size + 1, 2, none⟩) (by simp) _
                  · have HG1 : Hid (ff (fun _ => constB) (d.consts.drop (q + 1)) (q + 1) = co0 m d) := by have h := HE.out; rw [hh, if_pos rfl] at h; exact h
                    clear HE HV
                    go_wp2_with fail
                    refine (const_any v _ hvok).mono ?_
                    rw [hh]
                    rintro e w2 ⟨rfl, hx⟩
                    have hy := below_alloc hB (.cells #[.int .i64 v.k, .int .i64 v.n, .float .f64 v.f, .string v.s, .int .i64 v.r] 64)
                    replace hB := hy.trans (hx.mono hy.size)
                    replace B0 : Hid _ := blk_later hx (blk_old B0.out _)
                    replace B1 : Hid _ := blk_later hx (blk_old B1.out _)
                    replace BF : Hid _ := blk_later hx (blk_old BF.out _)
                    clear hx hy v0 v1 v2 v3 v4
                    go_wp2_with fail
                    go_roundw
                    case rel => exact ⟨q + 1, by omega, by go_num, HG1, hB, B0, B1, BF⟩
                    case measure => simp [intOf]; omega
                · have hn : co0 m d = none := by rw [← HG.out]; exact ff_end _ (by omega)
                  have HF1 : Hid (fp co0 ((xs.drop (m + 1)).map FC.d) (m + 1) = fp co0 cs 0) := by have h := HD.out; rw [hn] at h; exact h
                  clear HG HD hn
                  go_wp2_with fail
                  go_roundw
                  case rel => exact ⟨m + 1, by omega, by go_num, HF1, hB, B0, B1⟩
                  case measure => simp [intOf]; omega
            · have hml : len = m := by omega
              subst hml
              have H3 : Hid (fp co0 cs 0 = none) := by show fp co0 cs 0 = none; rw [← HF.out]; exact drop_end (by rw [HL.out]; omega) _
              clear HF a0 hm k1
              have a0 : wr.cell? ⟨w.heap.size, 0, none⟩ = some (.slice a len cap) := by rw [blk_cell B0.out]; rfl
              go_wp2_with fail
              clear a0
              go_loopw [85] (fun i wr => ∃ m : Nat, m ≤ len ∧ i = .int .i64 m ∧ Hid (fp na0 ((xs.drop m).map FC.d) m = fp na0 cs 0) ∧ Below w.heap.size w wr ∧ Hid (wr.heap[w.heap.size]? = some (CO (.slice a len cap))) ∧ Hid (wr.heap[w.heap.size + 1]? = some (FO 0 0 0))) (fun i _ => len - (intOf i).toNat)
              case atStart => exact ⟨0, Nat.zero_le _, rfl, by show fp na0 ((xs.drop 0).map FC.d) 0 = _; rw [HM.out, List.drop_zero], hB, B0, B1⟩
              case round =>
                obtain ⟨m, hm, rfl, HF, hB, B0, B1⟩ := hrel
                have a0 : wr.cell? ⟨w.heap.size, 0, none⟩ = some (.slice a len cap) := by rw [blk_cell B0.out]; rfl
                by_cases k1 : m < len
                · obtain ⟨f, hf⟩ : ∃ f, xs[m]? = some f := ⟨xs[m]'(by rw [HL.out]; exact k1), by simp⟩
                  obtain ⟨b, off, rfl, hb, hc⟩ := H.out.nine hf
                  have hok := H.out.ok f (List.mem_of_getElem? hf)
                  have HLI : Hid (f.lie w) := H.out.lie f (List.mem_of_getElem? hf)
                  have HD : Hid ((match na0 m f.d with | some j => some (m, j) | none => fp na0 ((xs.drop (m + 1)).map FC.d) (m + 1)) = fp na0 cs 0) := by have h := HF.out; rw [fp_drop _ hf] at h; exact h
                  obtain ⟨hr0, hr1⟩ := regs_of H2.out (show cs[m]? = some f.d by rw [HM.out]; exact map_at hf)
                  clear HF hf hb
                  obtain ⟨d, au, cu, ac, cc, ai, ci, an, cn⟩ := f
                  obtain ⟨c0, c1, c2, c3, c4, c5, c6, c7, c8⟩ := hc.later hB
                  simp only at c0 c1 c2 c3 c4 c5 c6 c7 c8 hok HD hr0 hr1
                  have HLX : Hid (SlA w 4 ND.cells an d.named) := HLI.out.n
                  have hlx : d.named.length ≤ 1048576 := hok.ln
                  have HOK : Hid d.ok := hok
                  have HCC : Hid (Cell9 w b (off + m * 9) ⟨d, au, cu, ac, cc, ai, ci, an, cn⟩) := hc
                  clear hok hc HLI
                  go_wp2_with fail
                  obtain ⟨g, hg⟩ : ∃ g, g = wr.heap.size := ⟨_, rfl⟩
                  have BF : Hid ((wr.alloc (PO ⟨d, au, cu, ac, cc, ai, ci, an, cn⟩)).heap[g]? = some (PO ⟨d, au, cu, ac, cc, ai, ci, an, cn⟩)) := blk_newn hg.symm _
                  rw [← hg]
                  clear hg c0 c1 c2 c3 c4 c5 c6 c7 c8 a0
                  go_loopw [93] (fun i wi => ∃ q : Nat, q ≤ d.named.length ∧ i = .int .i64 q ∧ Hid (ff (namedB d) (d.named.drop q) q = na0 m d) ∧ Below w.heap.size w wi ∧ Hid (wi.heap[w.heap.size]? = some (CO (.slice (some ⟨b, off, none⟩) len cap))) ∧ Hid (wi.heap[w.heap.size + 1]? = some (FO 0 0 0)) ∧ Hid (wi.heap[g]? = some (PO ⟨d, au, cu, ac, cc, ai, ci, an, cn⟩))) (fun i _ => d.named.length - (intOf i).toNat)
                  case atStart => exact ⟨0, Nat.zero_le _, rfl, rfl, below_alloc hB _, blk_old B0.out _, blk_old B1.out _, BF⟩
                  case round =>
                    obtain ⟨q, hq, rfl, HG, hB, B0, B1, BF⟩ := hrel
                    have a0 : wr.cell? ⟨w.heap.size, 0, none⟩ = some (.slice (some ⟨b, off, none⟩) len cap) := by rw [blk_cell B0.out]; rfl
                    by_cases k2 : q < d.named.length
                    · obtain ⟨v, hv⟩ : ∃ v, d.named[q]? = some v := ⟨d.named[q]'k2, by simp⟩
                      have p0 : wr.cell? ⟨g, 0, none⟩ = some (.string d.name) := by rw [blk_cell BF.out]; rfl
                      have p1 : wr.cell? ⟨g, 1, none⟩ = some (.int .i64 d.line) := by rw [blk_cell BF.out]; rfl
                      have p2 : wr.cell? ⟨g, 2, none⟩ = some (.int .i64 d.params) := by rw [blk_cell BF.out]; rfl
                      have p3 : wr.cell? ⟨g, 3, none⟩ = some (.bool d.rest) := by rw [blk_cell BF.out]; rfl
                      have p4 : wr.cell? ⟨g, 4, none⟩ = some (.int .i64 d.regs) := by rw [blk_cell BF.out]; rfl
                      have p5 : wr.cell? ⟨g, 5, none⟩ = some (.slice au d.ups.length cu) := by rw [blk_cell BF.out]; rfl
                      have p6 : wr.cell? ⟨g, 6, none⟩ = some (.slice ac d.consts.length cc) := by rw [blk_cell BF.out]; rfl
                      have p7 : wr.cell? ⟨g, 7, none⟩ = some (.slice ai d.ins.length ci) := by rw [blk_cell BF.out]; rfl
                      have p8 : wr.cell? ⟨g, 8, none⟩ = some (.slice an d.named.length cn) := by rw [blk_cell BF.out]; rfl
                      have HV : Hid (d.named[q]? = some v) := hv
                      have HE : Hid ((if namedB d q v = true then ff (namedB d) (d.named.drop (q + 1)) (q + 1) else some q) = na0 m d) := by have h := HG.out; rw [ff_drop _ hv] at h; exact h
                      clear HG hv
                      cases hh : namedB d q v
                      · have HR : Hid (partsV cs = (4, (m : Int), (q : Int))) := parts_4 HZ.out H2.out H3.out (by rw [← HD.out]; have h := HE.out; rw [hh, if_neg (by simp)] at h; rw [← h])
                        go_wp2_with fail
                        refine (named_any ⟨d, au, cu, ac, cc, ai, ci, an, cn⟩ q v _ HV.out (HLX.out.later hB) HOK.out hr0 hr1).mono ?_
                        rw [hh]
                        rintro e w2 ⟨rfl, hx⟩
                        replace hB := hB.trans (hx.mono hB.size)
                        replace B0 : Hid _ := blk_later hx B0.out
                        replace B1 : Hid _ := blk_later hx B1.out
                        replace BF : Hid _ := blk_later hx BF.out
                        clear hx a0 p0 p1 p2 p3 p4 p5 p6 p7 p8
                        go_wp2_with fail
                        refine (fault_b _ _ _ _).mono ?_
                        rintro e w1 ⟨rfl, hx⟩
                        have B1' := blk_later hx B1.out
                        have r0 : w1.cell? ⟨w.heap.size + 1, 0, none⟩ = some (.int .i64 0) := by rw [blk_cell B1']; rfl
                        have r1 : w1.cell? ⟨w.heap.size + 1, 1, none⟩ = some (.int .i64 0) := by rw [blk_cell B1']; rfl
                        have r2 : w1.cell? ⟨w.heap.size + 1, 2, none⟩ = some (.int .i64 0) := by rw [blk_cell B1']; rfl
                        have z := blk_frozen B1'
                        have hz := hB.trans (hx.mono hB.size)
                        clear B1' hx
                        go_wp2_with fail
                        refine bodyPost_ret (v := FV 4 (m : Int) (q : Int)) (by simp [results, Tryz.results11, go_sem, r0, r1, r2]) rfl ⟨?_, ?_⟩
                        · rw [HR.out]; rfl
                        · exact ((hz.setCell (p := ⟨w.heap.size + 1, 0, none⟩) (by simp) _).setCell (p := ⟨w.heap.size + 1, 1, none⟩) (by simp) _).setCell (p := ⟨w.heap.size + 1, 2, none⟩) (by simp) _
                      · have HG1 : Hid (ff (namedB d) (d.named.drop (q + 1)) (q + 1) = na0 m d) := by have h := HE.out; rw [hh, if_pos rfl] at h; exact h
                        clear HE
                        go_wp2_with fail
                        refine (named_any ⟨d, au, cu, ac, cc, ai, ci, an, cn⟩ q v _ HV.out (HLX.out.later hB) HOK.out hr0 hr1).mono ?_
                        rw [hh]
                        rintro e w2 ⟨rfl, hx⟩
                        replace hB := hB.trans (hx.mono hB.size)
                        replace B0 : Hid _ := blk_later hx B0.out
                        replace B1 : Hid _ := blk_later hx B1.out
                        replace BF : Hid _ := blk_later hx BF.out
                        clear hx a0 p0 p1 p2 p3 p4 p5 p6 p7 p8
                        go_wp2_with fail
                        go_roundw
                        case rel => exact ⟨q + 1, by omega, by go_num, HG1, hB, B0, B1, BF⟩
                        case measure => simp [intOf]; omega
                    · have hn : na0 m d = none := by rw [← HG.out]; exact ff_end _ (by omega)
                      have HF1 : Hid (fp na0 ((xs.drop (m + 1)).map FC.d) (m + 1) = fp na0 cs 0) := by have h := HD.out; rw [hn] at h; exact h
                      clear HG HD hn
                      go_wp2_with fail
                      go_roundw
                      case rel => exact ⟨m + 1, by omega, by go_num, HF1, hB, B0, B1⟩
                      case measure => simp [intOf]; omega
                · have hml : len = m := by omega
                  subst hml
                  have H4 : Hid (fp na0 cs 0 = none) := by show fp na0 cs 0 = none; rw [← HF.out]; exact drop_end (by rw [HL.out]; omega) _
                  clear HF a0 hm k1
                  have a0 : wr.cell? ⟨w.heap.size, 0, none⟩ = some (.slice a len cap) := by rw [blk_cell B0.out]; rfl
                  go_wp2_with fail
                  clear a0
                  go_loopw [108] (fun i wr => ∃ m : Nat, m ≤ len ∧ i = .int .i64 m ∧ Hid (fp (in0 len) ((xs.drop m).map FC.d) m = fp (in0 len) cs 0) ∧ Below w.heap.size w wr ∧ Hid (wr.heap[w.heap.size]? = some (CO (.slice a len cap))) ∧ Hid (wr.heap[w.heap.size + 1]? = some (FO 0 0 0))) (fun i _ => len - (intOf i).toNat)
                  case atStart => exact ⟨0, Nat.zero_le _, rfl, by show fp (in0 len) ((xs.drop 0).map FC.d) 0 = _; rw [HM.out, List.drop_zero], hB, B0, B1⟩
                  case round =>
                    obtain ⟨m, hm, rfl, HF, hB, B0, B1⟩ := hrel
                    have a0 : wr.cell? ⟨w.heap.size, 0, none⟩ = some (.slice a len cap) := by rw [blk_cell B0.out]; rfl
                    by_cases k1 : m < len
                    · obtain ⟨f, hf⟩ : ∃ f, xs[m]? = some f := ⟨xs[m]'(by rw [HL.out]; exact k1), by simp⟩
                      obtain ⟨b, off, rfl, hb, hc⟩ := H.out.nine hf
                      have hok := H.out.ok f (List.mem_of_getElem? hf)
                      have HLI : Hid (f.lie w) := H.out.lie f (List.mem_of_getElem? hf)
                      have HD : Hid ((match (in0 len) m f.d with | some j => some (m, j) | none => fp (in0 len) ((xs.drop (m + 1)).map FC.d) (m + 1)) = fp (in0 len) cs 0) := by have h := HF.out; rw [fp_drop _ hf] at h; exact h
                      obtain ⟨hr0, hr1⟩ := regs_of H2.out (show cs[m]? = some f.d by rw [HM.out]; exact map_at hf)
                      clear HF hf hb
                      obtain ⟨d, au, cu, ac, cc, ai, ci, an, cn⟩ := f
                      obtain ⟨c0, c1, c2, c3, c4, c5, c6, c7, c8⟩ := hc.later hB
                      simp only at c0 c1 c2 c3 c4 c5 c6 c7 c8 hok HD hr0 hr1
                      have HLX : Hid (SlA w 5 ID.cells ai d.ins) := HLI.out.i
                      have hlx : d.ins.length ≤ 1048576 := hok.li
                      have HOK : Hid d.ok := hok
                      have HCC : Hid (Cell9 w b (off + m * 9) ⟨d, au, cu, ac, cc, ai, ci, an, cn⟩) := hc
                      clear hok hc HLI
                      by_cases hemp : d.ins.length = 0
                      · have HR : Hid (partsV cs = (5, (m : Int), ((0 : Nat) : Int))) := parts_5 HZ.out H2.out H3.out H4.out (by rw [HCL.out, ← HD.out]; simp [in0, hemp])
                        have hemp' : ((d.ins.length : Int) == 0) = true := by simp [hemp]
                        go_wp2_with fail
                        refine (fault_b _ _ _ _).mono ?_
                        rintro e w1 ⟨rfl, hx⟩
                        have B1' := blk_later hx (blk_old B1.out _)
                        have r0 : w1.cell? ⟨w.heap.size + 1, 0, none⟩ = some (.int .i64 0) := by rw [blk_cell B1']; rfl
                        have r1 : w1.cell? ⟨w.heap.size + 1, 1, none⟩ = some (.int .i64 0) := by rw [blk_cell B1']; rfl
                        have r2 : w1.cell? ⟨w.heap.size + 1, 2, none⟩ = some (.int .i64 0) := by rw [blk_cell B1']; rfl
                        have z := blk_frozen B1'
                        have hz := (below_alloc hB _).trans (hx.mono (below_alloc hB _).size)
                        clear B1' hx
                        go_wp2_with fail
                        refine bodyPost_ret (v := FV 5 (m : Int) 0) (by simp [results, Tryz.results11, go_sem, r0, r1, r2]) rfl ⟨?_, ?_⟩
                        · rw [HR.out]; rfl
                        · exact ((hz.setCell (p := ⟨w.heap.size + 1, 0, none⟩) (by simp) _).setCell (p := ⟨w.heap.size + 1, 1, none⟩) (by simp) _).setCell (p := ⟨w.heap.size + 1, 2, none⟩) (by simp) _
                      have hemp' : ((d.ins.length : Int) == 0) = false := by simpa using hemp
                      go_wp2_with fail
                      obtain ⟨g, hg⟩ : ∃ g, g = wr.heap.size := ⟨_, rfl⟩
                      have BF : Hid ((wr.alloc (PO ⟨d, au, cu, ac, cc, ai, ci, an, cn⟩)).heap[g]? = some (PO ⟨d, au, cu, ac, cc, ai, ci, an, cn⟩)) := blk_newn hg.symm _
                      rw [← hg]
                      clear hg c0 c1 c2 c3 c4 c5 c6 c7 c8 a0
                      go_loopw [122] (fun i wi => ∃ q : Nat, q ≤ d.ins.length ∧ i = .int .i64 q ∧ Hid (ff (insB len d) (d.ins.drop q) q = in0 len m d) ∧ Below w.heap.size w wi ∧ Hid (wi.heap[w.heap.size]? = some (CO (.slice (some ⟨b, off, none⟩) len cap))) ∧ Hid (wi.heap[w.heap.size + 1]? = some (FO 0 0 0)) ∧ Hid (wi.heap[g]? = some (PO ⟨d, au, cu, ac, cc, ai, ci, an, cn⟩))) (fun i _ => d.ins.length - (intOf i).toNat)
                      case atStart => exact ⟨0, Nat.zero_le _, rfl, by show ff (insB len d) (d.ins.drop 0) 0 = in0 len m d; rw [List.drop_zero, in0, if_neg hemp], below_alloc hB _, blk_old B0.out _, blk_old B1.out _, BF⟩
                      case round =>
                        obtain ⟨q, hq, rfl, HG, hB, B0, B1, BF⟩ := hrel
                        have a0 : wr.cell? ⟨w.heap.size, 0, none⟩ = some (.slice (some ⟨b, off, none⟩) len cap) := by rw [blk_cell B0.out]; rfl
                        by_cases k2 : q < d.ins.length
                        · obtain ⟨v, hv⟩ : ∃ v, d.ins[q]? = some v := ⟨d.ins[q]'k2, by simp⟩
                          have HV : Hid (d.ins[q]? = some v) := hv
                          have HE : Hid ((if insB len d q v = true then ff (insB len d) (d.ins.drop (q + 1)) (q + 1) else some q) = in0 len m d) := by have h := HG.out; rw [ff_drop _ hv] at h; exact h
                          clear HG hv
                          cases hh : insB len d q v
                          · have HR : Hid (partsV cs = (5, (m : Int), (q : Int))) := parts_5 HZ.out H2.out H3.out H4.out (by rw [HCL.out]; rw [← HD.out]; have h := HE.out; rw [hh, if_neg (by simp)] at h; rw [← h])
                            go_wp2_with fail
                            refine (insok_any b off len cap m ⟨d, au, cu, ac, cc, ai, ci, an, cn⟩ q v _ k1 hlen (HCC.out.later hB) HV.out (HLX.out.later hB) HOK.out hr0 hr1).mono ?_
                            rw [hh]
                            rintro e w2 ⟨rfl, hx⟩
                            replace hB := hB.trans (hx.mono hB.size)
                            replace B0 : Hid _ := blk_later hx B0.out
                            replace B1 : Hid _ := blk_later hx B1.out
                            replace BF : Hid _ := blk_later hx BF.out
                            clear hx a0
                            go_wp2_with fail
                            refine (fault_b _ _ _ _).mono ?_
                            rintro e w1 ⟨rfl, hx⟩
                            have B1' := blk_later hx B1.out
                            have r0 : w1.cell? ⟨w.heap.size + 1, 0, none⟩ = some (.int .i64 0) := by rw [blk_cell B1']; rfl
                            have r1 : w1.cell? ⟨w.heap.size + 1, 1, none⟩ = some (.int .i64 0) := by rw [blk_cell B1']; rfl
                            have r2 : w1.cell? ⟨w.heap.size + 1, 2, none⟩ = some (.int .i64 0) := by rw [blk_cell B1']; rfl
                            have z := blk_frozen B1'
                            have hz := hB.trans (hx.mono hB.size)
                            clear B1' hx
                            go_wp2_with fail
                            refine bodyPost_ret (v := FV 5 (m : Int) (q : Int)) (by simp [results, Tryz.results11, go_sem, r0, r1, r2]) rfl ⟨?_, ?_⟩
                            · rw [HR.out]; rfl
                            · exact ((hz.setCell (p := ⟨w.heap.size + 1, 0, none⟩) (by simp) _).setCell (p := ⟨w.heap.size + 1, 1, none⟩) (by simp) _).setCell (p := ⟨w.heap.size + 1, 2, none⟩) (by simp) _
                          · have HG1 : Hid (ff (insB len d) (d.ins.drop (q + 1)) (q + 1) = in0 len m d) := by have h := HE.out; rw [hh, if_pos rfl] at h; exact h
                            clear HE
                            go_wp2_with fail
                            refine (insok_any b off len cap m ⟨d, au, cu, ac, cc, ai, ci, an, cn⟩ q v _ k1 hlen (HCC.out.later hB) HV.out (HLX.out.later hB) HOK.out hr0 hr1).mono ?_
                            rw [hh]
                            rintro e w2 ⟨rfl, hx⟩
                            replace hB := hB.trans (hx.mono hB.size)
                            replace B0 : Hid _ := blk_later hx B0.out
                            replace B1 : Hid _ := blk_later hx B1.out
                            replace BF : Hid _ := blk_later hx BF.out
                            clear hx a0
                            go_wp2_with fail
                            go_roundw
                            case rel => exact ⟨q + 1, by omega, by go_num, HG1, hB, B0, B1, BF⟩
                            case measure => simp [intOf]; omega
                        · have hn : in0 len m d = none := by rw [← HG.out]; exact ff_end _ (by omega)
                          have HF1 : Hid (fp (in0 len) ((xs.drop (m + 1)).map FC.d) (m + 1) = fp (in0 len) cs 0) := by have h := HD.out; rw [hn] at h; exact h
                          clear HG HD hn
                          go_wp2_with fail
                          go_roundw
                          case rel => exact ⟨m + 1, by omega, by go_num, HF1, hB, B0, B1⟩
                          case measure => simp [intOf]; omega
                    · have hml : len = m := by omega
                      subst hml
                      have HR : Hid (partsV cs = (0, 0, 0)) := parts_0 HZ.out H2.out H3.out H4.out (by rw [HCL.out, ← HF.out]; exact drop_end (by rw [HL.out]; omega) _)
                      clear HF a0 hm k1
                      have r0 : wr.cell? ⟨w.heap.size + 1, 0, none⟩ = some (.int .i64 0) := by rw [blk_cell B1.out]; rfl
                      have r1 : wr.cell? ⟨w.heap.size + 1, 1, none⟩ = some (.int .i64 0) := by rw [blk_cell B1.out]; rfl
                      have r2 : wr.cell? ⟨w.heap.size + 1, 2, none⟩ = some (.int .i64 0) := by rw [blk_cell B1.out]; rfl
                      have z := blk_frozen B1.out
                      go_wp2_with fail
                      refine bodyPost_ret (v := FV 0 0 0) (by simp [results, Tryz.results11, go_sem, r0, r1, r2]) rfl ⟨?_, ?_⟩
                      · rw [HR.out]; rfl
                      · exact ((hB.setCell (p := ⟨w.heap.size + 1, 0, none⟩) (by simp) _).setCell (p := ⟨w.heap.size + 1, 1, none⟩) (by simp) _).setCell (p := ⟨w.heap.size + 1, 2, none⟩) (by simp) _
end Go.Proofs.YtmicnjphlakoaaaGreatDoor
