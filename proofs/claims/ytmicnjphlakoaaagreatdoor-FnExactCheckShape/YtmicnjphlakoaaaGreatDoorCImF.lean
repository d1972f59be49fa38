/-
  OWN WORK. The program's shape: checkConsts, checkNamed, checkIns.
-/
import Derived.Test.YtmicnjphlakoaaaGreatDoorCImE
namespace Go.Proofs.YtmicnjphlakoaaaGreatDoor
open Go.RowKit
attribute [local go_sem] run_store_float
set_option linter.unusedVariables false
set_option linter.unusedSimpArgs false

theorem ckf_some {code : Int} {inner : Nat → FD → Option Nat} {p : Nat} {f : FD} {i : Nat} (h : inner p f = some i) : ckf code inner p f = some (code, (p : Int), (i : Int)) := by simp [ckf, h]
theorem ckf_none {code : Int} {inner : Nat → FD → Option Nat} {p : Nat} {f : FD} (h : inner p f = none) : ckf code inner p f = none := by simp [ckf, h]

set_option maxRecDepth 20000 in
set_option maxHeartbeats 8000000 in
theorem ickc_any (b off len cap p : Nat) (f : FC) (w : World) (hpl : p < len) (hlen : len ≤ 1048576) (hc : Cell9 w b (off + p * 9) f) (ok : f.d.ok) (hlie : f.lie w) :
    Calls Tryz.prog 29 #[.agg #[.slice (some ⟨b, off, none⟩) len cap], .int .i64 p] w fun e w' => e = .returned (EV (ckf 3 co0 p f.d)) ∧ Below w.heap.size w w' := by
  have hx := bw1 w (CO (.slice (some ⟨b, off, none⟩) len cap))
  obtain ⟨c0, c1, c2, c3, c4, c5, c6, c7, c8⟩ := hc.later hx
  obtain ⟨d, au, cu, ac, cc, ai, ci, an, cn⟩ := f
  simp only at c0 c1 c2 c3 c4 c5 c6 c7 c8 ok
  have HC : Hid (Cell9 w b (off + p * 9) ⟨d, au, cu, ac, cc, ai, ci, an, cn⟩) := hc
  have HO : Hid d.ok := ok
  have HLX : Hid (SlA w 5 VD.cells ac d.consts) := hlie.c
  have hlx : d.consts.length ≤ 1048576 := ok.lc
  clear hx hc ok hlie
  go_enter Tryz.func29, Tryz.ntmps29
  go_wp2_with fail
  clear c0 c1 c2 c3 c4 c5 c6 c7 c8
  go_loopw [14] (fun i wr => ∃ q : Nat, q ≤ d.consts.length ∧ i = .int .i64 q ∧ Hid (ff (fun _ => constB) (d.consts.drop q) q = co0 p d) ∧ Below w.heap.size w wr ∧ Hid (wr.heap[w.heap.size]? = some (CO (.slice (some ⟨b, off, none⟩) len cap)))) (fun i _ => d.consts.length - (intOf i).toNat)
  case atStart => exact ⟨0, Nat.zero_le _, rfl, rfl, bw1 _ _, blk_new _ _⟩
  case round =>
    obtain ⟨q, hq, rfl, HG, hB, B0⟩ := hrel
    by_cases k2 : q < d.consts.length
    · obtain ⟨v, hv⟩ : ∃ v, d.consts[q]? = some v := ⟨d.consts[q]'k2, by simp⟩
      obtain ⟨bc, oc, rfl, _, hcv⟩ := HLX.out q v hv
      have v0 : wr.cell? ⟨bc, oc + q * 5, none⟩ = some (.int .i64 v.k) := cell_later hB (hcv 0 _ rfl)
      have v1 : wr.cell? ⟨bc, oc + q * 5 + 1, none⟩ = some (.int .i64 v.n) := cell_later hB (hcv 1 _ rfl)
      have v2 : wr.cell? ⟨bc, oc + q * 5 + 2, none⟩ = some (.float .f64 v.f) := cell_later hB (hcv 2 _ rfl)
      have v3 : wr.cell? ⟨bc, oc + q * 5 + 3, none⟩ = some (.string v.s) := cell_later hB (hcv 3 _ rfl)
      have v4 : wr.cell? ⟨bc, oc + q * 5 + 4, none⟩ = some (.int .i64 v.r) := cell_later hB (hcv 4 _ rfl)
      have hvok := HO.out.c v (List.mem_of_getElem? hv)
      have HE : Hid ((if constB v = true then ff (fun _ => constB) (d.consts.drop (q + 1)) (q + 1) else some q) = co0 p d) := by have h := HG.out; rw [ff_drop _ hv] at h; exact h
      clear HG hv hcv
      have hy := bw1 wr (.cells #[.int .i64 v.k, .int .i64 v.n, .float .f64 v.f, .string v.s, .int .i64 v.r] 64)
      have hBa := hB.trans (hy.mono hB.size)
      have B0a : Hid _ := blk_later hy B0.out
      clear hB B0 hy
      cases hh : constB v
      · skip
        have HR : Hid (ckf 3 co0 p d = some (3, (p : Int), (q : Int))) := ckf_some (by have h := HE.out; rw [hh, if_neg (by simp)] at h; exact h.symm)
        go_wp2_with fail
        refine (iconst_any v _ hvok).mono ?_
        rw [hh]
        rintro e w2 ⟨rfl, hx⟩
        replace hBa := hBa.trans (hx.mono hBa.size)
        replace B0a : Hid _ := blk_later hx B0a.out
        clear hx v0 v1 v2 v3 v4
        go_wp2_with (go_at_call 27; refine (fat_any _ _ _ _).mono ?_; rintro e w' ⟨rfl, rfl⟩)
        go_ret
        exact ⟨by show _ = Ending.returned (EV (ckf 3 co0 p d)); rw [HR.out]; rfl, hBa⟩
      · have HG1 : Hid (ff (fun _ => constB) (d.consts.drop (q + 1)) (q + 1) = co0 p d) := by have h := HE.out; rw [hh, if_pos rfl] at h; exact h
        go_wp2_with fail
        refine (iconst_any v _ hvok).mono ?_
        rw [hh]
        rintro e w2 ⟨rfl, hx⟩
        replace hBa := hBa.trans (hx.mono hBa.size)
        replace B0a : Hid _ := blk_later hx B0a.out
        clear hx v0 v1 v2 v3 v4
        go_wp2_with fail
        go_roundw
        case rel => exact ⟨q + 1, by omega, by go_num, HG1, hBa, B0a⟩
        case measure => simp [intOf]; omega
    · have HR : Hid (ckf 3 co0 p d = none) := ckf_none (by rw [← HG.out]; exact ff_end _ (by omega))
      clear HG
      go_wp2_with fail
      go_ret
      exact ⟨by show _ = Ending.returned (EV (ckf 3 co0 p d)); rw [HR.out]; rfl, hB⟩

set_option maxRecDepth 20000 in
set_option maxHeartbeats 8000000 in
theorem ickn_any (b off len cap p : Nat) (f : FC) (w : World) (hpl : p < len) (hlen : len ≤ 1048576) (hc : Cell9 w b (off + p * 9) f) (ok : f.d.ok) (hlie : f.lie w) (hr0 : 0 ≤ f.d.regs) (hr1 : f.d.regs ≤ 250) :
    Calls Tryz.prog 30 #[.agg #[.slice (some ⟨b, off, none⟩) len cap], .int .i64 p] w fun e w' => e = .returned (EV (ckf 4 na0 p f.d)) ∧ Below w.heap.size w w' := by
  have hx := bw1 w (CO (.slice (some ⟨b, off, none⟩) len cap))
  obtain ⟨c0, c1, c2, c3, c4, c5, c6, c7, c8⟩ := hc.later hx
  obtain ⟨d, au, cu, ac, cc, ai, ci, an, cn⟩ := f
  simp only at c0 c1 c2 c3 c4 c5 c6 c7 c8 ok hr0 hr1
  have HC : Hid (Cell9 w b (off + p * 9) ⟨d, au, cu, ac, cc, ai, ci, an, cn⟩) := hc
  have HO : Hid d.ok := ok
  have HLX : Hid (SlA w 4 ND.cells an d.named) := hlie.n
  have hlx : d.named.length ≤ 1048576 := ok.ln
  clear hx hc ok hlie
  go_enter Tryz.func30, Tryz.ntmps30
  go_wp2_with fail
  clear c0 c1 c2 c3 c4 c5 c6 c7 c8
  go_loopw [16] (fun i wr => ∃ q : Nat, q ≤ d.named.length ∧ q ≤ 500 ∧ i = .int .i64 q ∧ Hid (ff (namedB d) (d.named.drop q) q = na0 p d) ∧ Below w.heap.size w wr ∧ Hid (wr.heap[w.heap.size]? = some (CO (.slice (some ⟨b, off, none⟩) len cap))) ∧ Hid (wr.heap[w.heap.size + 1]? = some (PO ⟨d, au, cu, ac, cc, ai, ci, an, cn⟩))) (fun i _ => d.named.length - (intOf i).toNat)
  case atStart => exact ⟨0, Nat.zero_le _, by omega, rfl, rfl, bw2 _ _ _, blk_old (blk_new _ _) _, blk_newn (by simp) _⟩
  case round =>
    obtain ⟨q, hq, h5, rfl, HG, hB, B0, BF⟩ := hrel
    by_cases k2 : q < d.named.length
    · obtain ⟨v, hv⟩ : ∃ v, d.named[q]? = some v := ⟨d.named[q]'k2, by simp⟩
      obtain ⟨bc, oc, rfl, _, hcv⟩ := HLX.out q v hv
      have v0 : wr.cell? ⟨bc, oc + q * 4, none⟩ = some (.string v.s) := cell_later hB (hcv 0 _ rfl)
      have v1 : wr.cell? ⟨bc, oc + q * 4 + 1, none⟩ = some (.int .i64 v.reg) := cell_later hB (hcv 1 _ rfl)
      have v2 : wr.cell? ⟨bc, oc + q * 4 + 2, none⟩ = some (.int .i64 v.fr) := cell_later hB (hcv 2 _ rfl)
      have v3 : wr.cell? ⟨bc, oc + q * 4 + 3, none⟩ = some (.int .i64 v.to) := cell_later hB (hcv 3 _ rfl)
      have hsz := HO.out.n v (List.mem_of_getElem? hv)
      have HE : Hid ((if namedB d q v = true then ff (namedB d) (d.named.drop (q + 1)) (q + 1) else some q) = na0 p d) := by have h := HG.out; rw [ff_drop _ hv] at h; exact h
      clear HG hv hcv
      have hy := bw1 wr (.cells #[.string v.s, .int .i64 v.reg, .int .i64 v.fr, .int .i64 v.to] 85)
      have hBa := hB.trans (hy.mono hB.size)
      have B0a : Hid _ := blk_later hy B0.out
      have BFa : Hid _ := blk_later hy BF.out
      have p0 : (wr.alloc (.cells #[.string v.s, .int .i64 v.reg, .int .i64 v.fr, .int .i64 v.to] 85)).cell? ⟨w.heap.size + 1, 0, none⟩ = some (.string d.name) := by rw [blk_cell BFa.out]; rfl
      have p1 : (wr.alloc (.cells #[.string v.s, .int .i64 v.reg, .int .i64 v.fr, .int .i64 v.to] 85)).cell? ⟨w.heap.size + 1, 1, none⟩ = some (.int .i64 d.line) := by rw [blk_cell BFa.out]; rfl
      have p2 : (wr.alloc (.cells #[.string v.s, .int .i64 v.reg, .int .i64 v.fr, .int .i64 v.to] 85)).cell? ⟨w.heap.size + 1, 2, none⟩ = some (.int .i64 d.params) := by rw [blk_cell BFa.out]; rfl
      have p3 : (wr.alloc (.cells #[.string v.s, .int .i64 v.reg, .int .i64 v.fr, .int .i64 v.to] 85)).cell? ⟨w.heap.size + 1, 3, none⟩ = some (.bool d.rest) := by rw [blk_cell BFa.out]; rfl
      have p4 : (wr.alloc (.cells #[.string v.s, .int .i64 v.reg, .int .i64 v.fr, .int .i64 v.to] 85)).cell? ⟨w.heap.size + 1, 4, none⟩ = some (.int .i64 d.regs) := by rw [blk_cell BFa.out]; rfl
      have p5 : (wr.alloc (.cells #[.string v.s, .int .i64 v.reg, .int .i64 v.fr, .int .i64 v.to] 85)).cell? ⟨w.heap.size + 1, 5, none⟩ = some (.slice au d.ups.length cu) := by rw [blk_cell BFa.out]; rfl
      have p6 : (wr.alloc (.cells #[.string v.s, .int .i64 v.reg, .int .i64 v.fr, .int .i64 v.to] 85)).cell? ⟨w.heap.size + 1, 6, none⟩ = some (.slice ac d.consts.length cc) := by rw [blk_cell BFa.out]; rfl
      have p7 : (wr.alloc (.cells #[.string v.s, .int .i64 v.reg, .int .i64 v.fr, .int .i64 v.to] 85)).cell? ⟨w.heap.size + 1, 7, none⟩ = some (.slice ai d.ins.length ci) := by rw [blk_cell BFa.out]; rfl
      have p8 : (wr.alloc (.cells #[.string v.s, .int .i64 v.reg, .int .i64 v.fr, .int .i64 v.to] 85)).cell? ⟨w.heap.size + 1, 8, none⟩ = some (.slice (some ⟨bc, oc, none⟩) d.named.length cn) := by rw [blk_cell BFa.out]; rfl
      clear hB B0 hy BF
      by_cases h50 : q = 500
      · have h50' : ((q : Int) == 500) = true := by simp [h50]
        have hh : namedB d q v = false := by simp [named_nam, h50]
        have HR : Hid (ckf 4 na0 p d = some (4, (p : Int), (q : Int))) := ckf_some (by have h := HE.out; rw [hh, if_neg (by simp)] at h; exact h.symm)
        clear h50
        go_wp2_with (go_at_call 27; refine (fat_any _ _ _ _).mono ?_; rintro e w' ⟨rfl, rfl⟩)
        go_ret
        exact ⟨by show _ = Ending.returned (EV (ckf 4 na0 p d)); rw [HR.out]; rfl, hBa⟩
      have h50' : ((q : Int) == 500) = false := by simp; omega
      cases hn : nam1 d v
      · have hh : namedB d q v = false := by simp [named_nam, hn]
        have HR : Hid (ckf 4 na0 p d = some (4, (p : Int), (q : Int))) := ckf_some (by have h := HE.out; rw [hh, if_neg (by simp)] at h; exact h.symm)
        go_wp2_with fail
        refine (inamed_any ⟨d, au, cu, ac, cc, ai, ci, some ⟨bc, oc, none⟩, cn⟩ v _ hsz HO.out hr0 hr1).mono ?_
        rw [hn]
        rintro e w2 ⟨rfl, hx⟩
        replace hBa := hBa.trans (hx.mono hBa.size)
        replace B0a : Hid _ := blk_later hx B0a.out
        replace BFa : Hid _ := blk_later hx BFa.out
        clear hx v0 v1 v2 v3 p0 p1 p2 p3 p4 p5 p6 p7 p8
        go_wp2_with (go_at_call 27; refine (fat_any _ _ _ _).mono ?_; rintro e w' ⟨rfl, rfl⟩)
        go_ret
        exact ⟨by show _ = Ending.returned (EV (ckf 4 na0 p d)); rw [HR.out]; rfl, hBa⟩
      · have hh : namedB d q v = true := by rw [named_nam, hn]; simp; omega
        have HG1 : Hid (ff (namedB d) (d.named.drop (q + 1)) (q + 1) = na0 p d) := by have h := HE.out; rw [hh, if_pos rfl] at h; exact h
        go_wp2_with fail
        refine (inamed_any ⟨d, au, cu, ac, cc, ai, ci, some ⟨bc, oc, none⟩, cn⟩ v _ hsz HO.out hr0 hr1).mono ?_
        rw [hn]
        rintro e w2 ⟨rfl, hx⟩
        replace hBa := hBa.trans (hx.mono hBa.size)
        replace B0a : Hid _ := blk_later hx B0a.out
        replace BFa : Hid _ := blk_later hx BFa.out
        clear hx v0 v1 v2 v3 p0 p1 p2 p3 p4 p5 p6 p7 p8
        go_wp2_with fail
        go_roundw
        case rel => exact ⟨q + 1, by omega, by omega, by go_num, HG1, hBa, B0a, BFa⟩
        case measure => simp [intOf]; omega
    · have HR : Hid (ckf 4 na0 p d = none) := ckf_none (by rw [← HG.out]; exact ff_end _ (by omega))
      clear HG
      go_wp2_with fail
      go_ret
      exact ⟨by show _ = Ending.returned (EV (ckf 4 na0 p d)); rw [HR.out]; rfl, hB⟩

set_option maxRecDepth 20000 in
set_option maxHeartbeats 8000000 in
theorem icki_any (b off len cap p : Nat) (f : FC) (w : World) (hpl : p < len) (hlen : len ≤ 1048576) (hc : Cell9 w b (off + p * 9) f) (ok : f.d.ok) (hlie : f.lie w) (hr0 : 0 ≤ f.d.regs) (hr1 : f.d.regs ≤ 250) (hlay : LayAt w) :
    Calls Tryz.prog 31 #[.agg #[.slice (some ⟨b, off, none⟩) len cap], .int .i64 p] w fun e w' => e = .returned (EV (ckf 5 (in0 len) p f.d)) ∧ Below w.heap.size w w' := by
  have hx := bw1 w (CO (.slice (some ⟨b, off, none⟩) len cap))
  obtain ⟨c0, c1, c2, c3, c4, c5, c6, c7, c8⟩ := hc.later hx
  obtain ⟨d, au, cu, ac, cc, ai, ci, an, cn⟩ := f
  simp only at c0 c1 c2 c3 c4 c5 c6 c7 c8 ok hr0 hr1
  have HC : Hid (Cell9 w b (off + p * 9) ⟨d, au, cu, ac, cc, ai, ci, an, cn⟩) := hc
  have HO : Hid d.ok := ok
  have HLX : Hid (SlA w 5 ID.cells ai d.ins) := hlie.i
  have hlx : d.ins.length ≤ 1048576 := ok.li
  have HLY : Hid (LayAt w) := hlay
  clear hx hc ok hlie hlay
  by_cases hemp : d.ins.length = 0
  · have hemp' : ((d.ins.length : Int) == 0) = true := by simp [hemp]
    have HR : Hid (ckf 5 (in0 len) p d = some (5, (p : Int), ((0 : Nat) : Int))) := ckf_some (by simp [in0, hemp])
    clear hemp
    go_enter Tryz.func31, Tryz.ntmps31
    go_wp2_with (go_at_call 27; refine (fat_any _ _ _ _).mono ?_; rintro e w' ⟨rfl, rfl⟩)
    go_ret
    exact ⟨by show _ = Ending.returned (EV (ckf 5 (in0 len) p d)); rw [HR.out]; rfl, bw1 _ _⟩
  have hemp' : ((d.ins.length : Int) == 0) = false := by simpa using hemp
  go_enter Tryz.func31, Tryz.ntmps31
  go_wp2_with fail
  clear c0 c1 c2 c3 c4 c5 c6 c7 c8
  go_loopw [22] (fun i wr => ∃ q : Nat, q ≤ d.ins.length ∧ i = .int .i64 q ∧ Hid (ff (insB len d) (d.ins.drop q) q = in0 len p d) ∧ Below w.heap.size w wr ∧ Hid (wr.heap[w.heap.size]? = some (CO (.slice (some ⟨b, off, none⟩) len cap)))) (fun i _ => d.ins.length - (intOf i).toNat)
  case atStart => exact ⟨0, Nat.zero_le _, rfl, by show ff (insB len d) (d.ins.drop 0) 0 = in0 len p d; rw [List.drop_zero, in0, if_neg hemp], bw1 _ _, blk_new _ _⟩
  case round =>
    obtain ⟨q, hq, rfl, HG, hB, B0⟩ := hrel
    by_cases k2 : q < d.ins.length
    · obtain ⟨v, hv⟩ : ∃ v, d.ins[q]? = some v := ⟨d.ins[q]'k2, by simp⟩
      obtain ⟨bc, oc, rfl, _, hcv⟩ := HLX.out q v hv
      have v0 : wr.cell? ⟨bc, oc + q * 5, none⟩ = some (.int .i64 v.op) := cell_later hB (hcv 0 _ rfl)
      have v1 : wr.cell? ⟨bc, oc + q * 5 + 1, none⟩ = some (.int .i64 v.a) := cell_later hB (hcv 1 _ rfl)
      have v2 : wr.cell? ⟨bc, oc + q * 5 + 2, none⟩ = some (.int .i64 v.b) := cell_later hB (hcv 2 _ rfl)
      have v3 : wr.cell? ⟨bc, oc + q * 5 + 3, none⟩ = some (.int .i64 v.c) := cell_later hB (hcv 3 _ rfl)
      have v4 : wr.cell? ⟨bc, oc + q * 5 + 4, none⟩ = some (.int .i64 v.d) := cell_later hB (hcv 4 _ rfl)
      have HE : Hid ((if insB len d q v = true then ff (insB len d) (d.ins.drop (q + 1)) (q + 1) else some q) = in0 len p d) := by have h := HG.out; rw [ff_drop _ hv] at h; exact h
      clear HG hv hcv
      have hy := bw1 wr (.cells #[.int .i64 v.op, .int .i64 v.a, .int .i64 v.b, .int .i64 v.c, .int .i64 v.d] 45)
      have hBa := hB.trans (hy.mono hB.size)
      have B0a : Hid _ := blk_later hy B0.out
      have a0 : (wr.alloc (.cells #[.int .i64 v.op, .int .i64 v.a, .int .i64 v.b, .int .i64 v.c, .int .i64 v.d] 45)).cell? ⟨w.heap.size, 0, none⟩ = some (.slice (some ⟨b, off, none⟩) len cap) := by rw [blk_cell B0a.out]; rfl
      clear hB B0 hy
      by_cases he : q + 1 = d.ins.length
      · have he' : ((q : Int) == (d.ins.length : Int) - 1) = true := by simp; omega
        have HEQ : Hid ((q + 1 == d.ins.length) = true) := by show (q + 1 == d.ins.length) = true; simpa using he
        clear he
        cases hn : fieldsB len d v
        · have hh : insB len d q v = false := by simp [insB, hn]
          have HR : Hid (ckf 5 (in0 len) p d = some (5, (p : Int), (q : Int))) := ckf_some (by have h := HE.out; rw [hh, if_neg (by simp)] at h; exact h.symm)
          go_wp2_with fail
          refine (iins_any b off len cap p ⟨d, au, cu, ac, cc, some ⟨bc, oc, none⟩, ci, an, cn⟩ v _ hpl hlen (HC.out.later hBa) HO.out hr0 hr1 (HLY.out.later hBa)).mono ?_
          rw [hn]
          rintro e w2 ⟨rfl, hx⟩
          have n0 : w2.cell? ⟨wr.heap.size, 0, none⟩ = some (.int .i64 v.op) := by rw [blk_cell (blk_later hx (blk_new _ _))]; rfl
          replace hBa := hBa.trans (hx.mono hBa.size)
          replace B0a : Hid _ := blk_later hx B0a.out
          clear hx v0 v1 v2 v3 v4 a0
          go_wp2_with (go_at_call 27; refine (fat_any _ _ _ _).mono ?_; rintro e w' ⟨rfl, rfl⟩)
          go_ret
          exact ⟨by show _ = Ending.returned (EV (ckf 5 (in0 len) p d)); rw [HR.out]; rfl, hBa⟩
        · cases hg : endsB v.op
          · have hh : insB len d q v = false := by unfold insB; rw [hn, hg, HEQ.out]; rfl
            have HR : Hid (ckf 5 (in0 len) p d = some (5, (p : Int), (q : Int))) := ckf_some (by have h := HE.out; rw [hh, if_neg (by simp)] at h; exact h.symm)
            go_wp2_with fail
            refine (iins_any b off len cap p ⟨d, au, cu, ac, cc, some ⟨bc, oc, none⟩, ci, an, cn⟩ v _ hpl hlen (HC.out.later hBa) HO.out hr0 hr1 (HLY.out.later hBa)).mono ?_
            rw [hn]
            rintro e w2 ⟨rfl, hx⟩
            have n0 : w2.cell? ⟨wr.heap.size, 0, none⟩ = some (.int .i64 v.op) := by rw [blk_cell (blk_later hx (blk_new _ _))]; rfl
            replace hBa := hBa.trans (hx.mono hBa.size)
            replace B0a : Hid _ := blk_later hx B0a.out
            clear hx v0 v1 v2 v3 v4 a0
            go_wp2_with (first | (go_at_call 55; refine (goes_any _ _).mono ?_; rw [hg]; rintro e w' ⟨rfl, rfl⟩) | (go_at_call 27; refine (fat_any _ _ _ _).mono ?_; rintro e w' ⟨rfl, rfl⟩))
            go_ret
            exact ⟨by show _ = Ending.returned (EV (ckf 5 (in0 len) p d)); rw [HR.out]; rfl, hBa⟩
          · have hh : insB len d q v = true := by unfold insB; rw [hn, hg]; simp
            have HG1 : Hid (ff (insB len d) (d.ins.drop (q + 1)) (q + 1) = in0 len p d) := by have h := HE.out; rw [hh, if_pos rfl] at h; exact h
            go_wp2_with fail
            refine (iins_any b off len cap p ⟨d, au, cu, ac, cc, some ⟨bc, oc, none⟩, ci, an, cn⟩ v _ hpl hlen (HC.out.later hBa) HO.out hr0 hr1 (HLY.out.later hBa)).mono ?_
            rw [hn]
            rintro e w2 ⟨rfl, hx⟩
            have n0 : w2.cell? ⟨wr.heap.size, 0, none⟩ = some (.int .i64 v.op) := by rw [blk_cell (blk_later hx (blk_new _ _))]; rfl
            replace hBa := hBa.trans (hx.mono hBa.size)
            replace B0a : Hid _ := blk_later hx B0a.out
            clear hx v0 v1 v2 v3 v4 a0
            go_wp2_with (first | (go_at_call 55; refine (goes_any _ _).mono ?_; rw [hg]; rintro e w' ⟨rfl, rfl⟩) | (go_at_call 27; refine (fat_any _ _ _ _).mono ?_; rintro e w' ⟨rfl, rfl⟩))
            go_roundw
            case rel => exact ⟨q + 1, by omega, by go_num, HG1, hBa, B0a⟩
            case measure => simp [intOf]; omega
      · have he' : ((q : Int) == (d.ins.length : Int) - 1) = false := by simp; omega
        have HEQ : Hid ((q + 1 == d.ins.length) = false) := by show (q + 1 == d.ins.length) = false; simpa using he
        cases hn : fieldsB len d v
        · have hh : insB len d q v = false := by simp [insB, hn]
          have HR : Hid (ckf 5 (in0 len) p d = some (5, (p : Int), (q : Int))) := ckf_some (by have h := HE.out; rw [hh, if_neg (by simp)] at h; exact h.symm)
          go_wp2_with fail
          refine (iins_any b off len cap p ⟨d, au, cu, ac, cc, some ⟨bc, oc, none⟩, ci, an, cn⟩ v _ hpl hlen (HC.out.later hBa) HO.out hr0 hr1 (HLY.out.later hBa)).mono ?_
          rw [hn]
          rintro e w2 ⟨rfl, hx⟩
          have n0 : w2.cell? ⟨wr.heap.size, 0, none⟩ = some (.int .i64 v.op) := by rw [blk_cell (blk_later hx (blk_new _ _))]; rfl
          replace hBa := hBa.trans (hx.mono hBa.size)
          replace B0a : Hid _ := blk_later hx B0a.out
          clear hx v0 v1 v2 v3 v4 a0
          go_wp2_with (go_at_call 27; refine (fat_any _ _ _ _).mono ?_; rintro e w' ⟨rfl, rfl⟩)
          go_ret
          exact ⟨by show _ = Ending.returned (EV (ckf 5 (in0 len) p d)); rw [HR.out]; rfl, hBa⟩
        · have hh : insB len d q v = true := by unfold insB; rw [hn, HEQ.out]; rfl
          have HG1 : Hid (ff (insB len d) (d.ins.drop (q + 1)) (q + 1) = in0 len p d) := by have h := HE.out; rw [hh, if_pos rfl] at h; exact h
          go_wp2_with fail
          refine (iins_any b off len cap p ⟨d, au, cu, ac, cc, some ⟨bc, oc, none⟩, ci, an, cn⟩ v _ hpl hlen (HC.out.later hBa) HO.out hr0 hr1 (HLY.out.later hBa)).mono ?_
          rw [hn]
          rintro e w2 ⟨rfl, hx⟩
          have n0 : w2.cell? ⟨wr.heap.size, 0, none⟩ = some (.int .i64 v.op) := by rw [blk_cell (blk_later hx (blk_new _ _))]; rfl
          replace hBa := hBa.trans (hx.mono hBa.size)
          replace B0a : Hid _ := blk_later hx B0a.out
          clear hx v0 v1 v2 v3 v4 a0
          go_wp2_with fail
          go_roundw
          case rel => exact ⟨q + 1, by omega, by go_num, HG1, hBa, B0a⟩
          case measure => simp [intOf]; omega
    · have HR : Hid (ckf 5 (in0 len) p d = none) := ckf_none (by rw [← HG.out]; exact ff_end _ (by omega))
      clear HG
      go_wp2_with fail
      go_ret
      exact ⟨by show _ = Ending.returned (EV (ckf 5 (in0 len) p d)); rw [HR.out]; rfl, hB⟩
end Go.Proofs.YtmicnjphlakoaaaGreatDoor
