import Derived.Test.YtfkeklndcjkgcaaGreatDoorCiA
/-
  OWN WORK. The program's shape: checkHead, checkConsts, checkNamed, checkIns.
-/
namespace Go.Proofs.YtfkeklndcjkgcaaGreatDoor
open Go.RowKit
attribute [local go_sem] run_store_float
set_option linter.unusedVariables false
set_option linter.unusedSimpArgs false

/-- The fault of one look at one proto. -/
def ckf (code : Int) (inner : Nat → FD → Option Nat) (p : Nat) (f : FD) : Option F3 := (inner p f).map fun i => (code, (p : Int), (i : Int))
theorem ck_t {p : Nat} {f : FD} (h : headB p f = true) : ckf 2 hd0 p f = none := by simp [ckf, hd0, h]
theorem ck_f {p : Nat} {f : FD} (h : headB p f = false) : ckf 2 hd0 p f = some (2, (p : Int), 0) := by simp [ckf, hd0, h]

set_option maxRecDepth 20000 in
set_option maxHeartbeats 8000000 in
theorem ihead_any (b off len cap p : Nat) (f : FC) (w : World) (hpl : p < len) (hlen : len ≤ 1048576) (hc : Cell9 w b (off + p * 9) f) (ok : f.d.ok) :
    Calls Tryz.prog 48 #[.agg #[.slice (some ⟨b, off, none⟩) len cap], .int .i64 p] w fun e w' => e = .returned (EV (ckf 2 hd0 p f.d)) ∧ Below w.heap.size w w' := by
  obtain ⟨c0, c1, c2, c3, c4, c5, c6, c7, c8⟩ := hc.later (bw1 w (CO (.slice (some ⟨b, off, none⟩) len cap)))
  obtain ⟨hn, lu, lc, lli, ln, _, _⟩ := ok
  unfold maxLen at hn
  clear hc
  by_cases hna : (f.d.name.size : Int) ≤ 40
  · cases h1 : inR f.d.line 0 100000
    · go_enter Tryz.func48, Tryz.ntmps48
      go_wp2_with (first | (go_at_call 95; refine (wi_any _ _ _ _).mono ?_; rw [h1]; rintro e w' ⟨rfl, rfl⟩) | (go_at_call 47; refine (fat_any _ _ _ _).mono ?_; rintro e w' ⟨rfl, rfl⟩))
      go_ret
      exact ⟨by rw [ck_f (by simp [headB, h1])]; rfl, bw2 _ _ _⟩
    · cases h2 : inR f.d.regs 0 250
      · go_enter Tryz.func48, Tryz.ntmps48
        go_wp2_with (first | (go_at_call 95; refine (wi_any _ _ _ _).mono ?_; (first | rw [h1] | rw [h2]); rintro e w' ⟨rfl, rfl⟩) | (go_at_call 47; refine (fat_any _ _ _ _).mono ?_; rintro e w' ⟨rfl, rfl⟩))
        go_ret
        exact ⟨by rw [ck_f (by simp [headB, h2])]; rfl, bw2 _ _ _⟩
      · have hr : 0 ≤ f.d.regs ∧ f.d.regs ≤ 250 := by simpa [inR] using h2
        obtain ⟨hr0, hr1⟩ := hr
        go_enter Tryz.func48, Tryz.ntmps48
        go_wp2_with (go_at_call 95; refine (wi_any _ _ _ _).mono ?_; (first | rw [h1] | rw [h2]); rintro e w' ⟨rfl, rfl⟩)
        refine (params_any f _ hr0 hr1).mono ?_
        rintro e w2 ⟨rfl, hx⟩
        have BF := blk_later hx (blk_newn (k := w.heap.size + 1) (by simp) (PO f))
        have p2 : w2.cell? ⟨w.heap.size + 1, 2, none⟩ = some (.int .i64 f.d.params) := by rw [blk_cell BF]; rfl
        have p5 : w2.cell? ⟨w.heap.size + 1, 5, none⟩ = some (.slice f.au f.d.ups.length f.cu) := by rw [blk_cell BF]; rfl
        have p6 : w2.cell? ⟨w.heap.size + 1, 6, none⟩ = some (.slice f.ac f.d.consts.length f.cc) := by rw [blk_cell BF]; rfl
        have hB : Below w.heap.size w w2 := (bw2 _ _ _).trans (hx.mono (by simp; omega))
        clear hx BF c0 c1 c2 c3 c4 c5 c6 c7 c8
        cases h3 : inR f.d.params 0 (if f.d.rest = true then f.d.regs - 1 else f.d.regs)
        · go_wp2_with (go_at_call 47; refine (fat_any _ _ _ _).mono ?_; rintro e w' ⟨rfl, rfl⟩)
          go_ret
          exact ⟨by rw [ck_f (by simp [headB, h3])]; rfl, hB⟩
        · by_cases h4 : (f.d.ups.length : Int) ≤ 250
          · by_cases h5 : (f.d.consts.length : Int) ≤ 500
            · by_cases h6 : p = 0
              · have h6' : ((p : Int) == 0) = true := by simp [h6]
                have H6 : Hid (p = 0) := h6
                clear h6
                cases h7 : (f.d.params == 0)
                · have h7' : (f.d.params != 0) = true := by simp [bne, h7]
                  go_wp2_with (go_at_call 47; refine (fat_any _ _ _ _).mono ?_; rintro e w' ⟨rfl, rfl⟩)
                  go_ret
                  exact ⟨by rw [ck_f (by simp [headB, H6.out, h7])]; rfl, hB⟩
                · have h7' : (f.d.params != 0) = false := by simp [bne, h7]
                  cases h8 : ((f.d.ups.length : Int) == 0)
                  · have h8' : ((f.d.ups.length : Int) != 0) = true := by simp only [bne, h8]; rfl
                    go_wp2_with (go_at_call 47; refine (fat_any _ _ _ _).mono ?_; rintro e w' ⟨rfl, rfl⟩)
                    go_ret
                    exact ⟨by rw [ck_f (by unfold headB; rw [h8]; simp [H6.out])]; rfl, hB⟩
                  · have h8' : ((f.d.ups.length : Int) != 0) = false := by simp only [bne, h8]; rfl
                    go_wp2_with fail
                    go_ret
                    exact ⟨by rw [ck_t (by unfold headB; rw [h8, h1, h2, h3, h7]; simp only [hna, h4, h5, decide_true, Bool.and_self, Bool.or_true])]; rfl, hB⟩
              · have h6' : ((p : Int) == 0) = false := by simpa using h6
                go_wp2_with fail
                go_ret
                exact ⟨by rw [ck_t (by have h9 : (p == 0) = false := by simpa using h6
                                       unfold headB; rw [h1, h2, h3, h9]; simp only [hna, h4, h5, decide_true, Bool.and_self, Bool.not_false, Bool.true_or])]; rfl, hB⟩
            · go_wp2_with (go_at_call 47; refine (fat_any _ _ _ _).mono ?_; rintro e w' ⟨rfl, rfl⟩)
              go_ret
              exact ⟨by rw [ck_f (by unfold headB; rw [decide_eq_false (Int.not_le.2 h5)]; simp)]; rfl, hB⟩
          · go_wp2_with (go_at_call 47; refine (fat_any _ _ _ _).mono ?_; rintro e w' ⟨rfl, rfl⟩)
            go_ret
            exact ⟨by rw [ck_f (by unfold headB; rw [decide_eq_false (Int.not_le.2 h4)]; simp)]; rfl, hB⟩
  · go_enter Tryz.func48, Tryz.ntmps48
    go_wp2_with (go_at_call 47; refine (fat_any _ _ _ _).mono ?_; rintro e w' ⟨rfl, rfl⟩)
    go_ret
    exact ⟨by rw [ck_f (by unfold headB; rw [decide_eq_false (Int.not_le.2 hna)]; simp)]; rfl, bw2 _ _ _⟩
end Go.Proofs.YtfkeklndcjkgcaaGreatDoor

/-
  OWN WORK. The program's shape: checkConsts, checkNamed, checkIns.
-/
namespace Go.Proofs.YtfkeklndcjkgcaaGreatDoor
open Go.RowKit
attribute [local go_sem] run_store_float
set_option linter.unusedVariables false
set_option linter.unusedSimpArgs false

theorem ckf_some {code : Int} {inner : Nat → FD → Option Nat} {p : Nat} {f : FD} {i : Nat} (h : inner p f = some i) : ckf code inner p f = some (code, (p : Int), (i : Int)) := by simp [ckf, h]
theorem ckf_none {code : Int} {inner : Nat → FD → Option Nat} {p : Nat} {f : FD} (h : inner p f = none) : ckf code inner p f = none := by simp [ckf, h]

set_option maxRecDepth 20000 in
set_option maxHeartbeats 8000000 in
theorem ickc_any (b off len cap p : Nat) (f : FC) (w : World) (hpl : p < len) (hlen : len ≤ 1048576) (hc : Cell9 w b (off + p * 9) f) (ok : f.d.ok) (hlie : f.lie w) :
    Calls Tryz.prog 49 #[.agg #[.slice (some ⟨b, off, none⟩) len cap], .int .i64 p] w fun e w' => e = .returned (EV (ckf 3 co0 p f.d)) ∧ Below w.heap.size w w' := by
  have hx := bw1 w (CO (.slice (some ⟨b, off, none⟩) len cap))
  obtain ⟨c0, c1, c2, c3, c4, c5, c6, c7, c8⟩ := hc.later hx
  obtain ⟨d, au, cu, ac, cc, ai, ci, an, cn⟩ := f
  simp only at c0 c1 c2 c3 c4 c5 c6 c7 c8 ok
  have HC : Hid (Cell9 w b (off + p * 9) ⟨d, au, cu, ac, cc, ai, ci, an, cn⟩) := hc
  have HO : Hid d.ok := ok
  have HLX : Hid (SlA w 5 VD.cells ac d.consts) := hlie.c
  have hlx : d.consts.length ≤ 1048576 := ok.lc
  clear hx hc ok hlie
  go_enter Tryz.func49, Tryz.ntmps49
  go_wp2_with fail
  clear c0 c1 c2 c3 c4 c5 c6 c7 c8
  go_loopw [14] (fun i wr => ∃ q : Nat, q ≤ d.consts.length ∧ i = .int .i64 q ∧ Hid (ff (fun _ => constB) (d.consts.drop q) q = co0 p d) ∧ Below w.heap.size w wr ∧ Hid (wr.heap[w.heap.size]? = some (CO (.slice (some ⟨b, off, none⟩) len cap)))) (fun i _ => d.consts.length - (intOf i).toNat)
  case atStart => exact ⟨0, Nat.zero_le _, rfl, rfl, bw1 _ _, blk_new _ _⟩
  case round =>
    obtain ⟨q, hq, rfl, HG, hB, B0⟩ := hrel
    by_cases k2 : q < d.consts.length
    · obtain ⟨v, hv⟩ : ∃ v, d.consts[q]? = some v := ⟨d.consts[q]'k2, by simp⟩
      obtain ⟨bc, oc, rfl, _, hcv⟩ := HLX.out q v hv
      have v0 : wr.cell? ⟨bc, oc + q * 5, none⟩ = some (.int .i64 v.k) := cell_later hB (hcv 0 _ rfl)
      have v1 : wr.cell? ⟨bc, oc + q * 5 + 1, none⟩ = some (.int .i64 v.n) := cell_later hB (hcv 1 _ rfl)
      have v2 : wr.cell? ⟨bc, oc + q * 5 + 2, none⟩ = some (.float .f64 v.f) := cell_later hB (hcv 2 _ rfl)
      have v3 : wr.cell? ⟨bc, oc + q * 5 + 3, none⟩ = some (.string v.s) := cell_later hB (hcv 3 _ rfl)
      have v4 : wr.cell? ⟨bc, oc + q * 5 + 4, none⟩ = some (.int .i64 v.r) := cell_later hB (hcv 4 _ rfl)
      have hvok := HO.out.c v (List.mem_of_getElem? hv)
      have HE : Hid ((if constB v = true then ff (fun _ => constB) (d.consts.drop (q + 1)) (q + 1) else some q) = co0 p d) := by have h := HG.out; rw [ff_drop _ hv] at h; exact h
      clear HG hv hcv
      have hy := bw1 wr (.cells #[.int .i64 v.k, .int .i64 v.n, .float .f64 v.f, .string v.s, .int .i64 v.r] 113)
      have hBa := hB.trans (hy.mono hB.size)
      have B0a : Hid _ := blk_later hy B0.out
      clear hB B0 hy
      cases hh : constB v
      · skip
        have HR : Hid (ckf 3 co0 p d = some (3, (p : Int), (q : Int))) := ckf_some (by have h := HE.out; rw [hh, if_neg (by simp)] at h; exact h.symm)
        go_wp2_with fail
        refine (iconst_any v _ hvok).mono ?_
        rw [hh]
        rintro e w2 ⟨rfl, hx⟩
        replace hBa := hBa.trans (hx.mono hBa.size)
        replace B0a : Hid _ := blk_later hx B0a.out
        clear hx v0 v1 v2 v3 v4
        go_wp2_with (go_at_call 47; refine (fat_any _ _ _ _).mono ?_; rintro e w' ⟨rfl, rfl⟩)
        go_ret
        exact ⟨by show _ = Ending.returned (EV (ckf 3 co0 p d)); rw [HR.out]; rfl, hBa⟩
      · have HG1 : Hid (ff (fun _ => constB) (d.consts.drop (q + 1)) (q + 1) = co0 p d) := by have h := HE.out; rw [hh, if_pos rfl] at h; exact h
        go_wp2_with fail
        refine (iconst_any v _ hvok).mono ?_
        rw [hh]
        rintro e w2 ⟨rfl, hx⟩
        replace hBa := hBa.trans (hx.mono hBa.size)
        replace B0a : Hid _ := blk_later hx B0a.out
        clear hx v0 v1 v2 v3 v4
        go_wp2_with fail
        go_roundw
        case rel => exact ⟨q + 1, by omega, by go_num, HG1, hBa, B0a⟩
        case measure => simp [intOf]; omega
    · have HR : Hid (ckf 3 co0 p d = none) := ckf_none (by rw [← HG.out]; exact ff_end _ (by omega))
      clear HG
      go_wp2_with fail
      go_ret
      exact ⟨by show _ = Ending.returned (EV (ckf 3 co0 p d)); rw [HR.out]; rfl, hB⟩

set_option maxRecDepth 20000 in
set_option maxHeartbeats 8000000 in
theorem ickn_any (b off len cap p : Nat) (f : FC) (w : World) (hpl : p < len) (hlen : len ≤ 1048576) (hc : Cell9 w b (off + p * 9) f) (ok : f.d.ok) (hlie : f.lie w) (hr0 : 0 ≤ f.d.regs) (hr1 : f.d.regs ≤ 250) :
    Calls Tryz.prog 50 #[.agg #[.slice (some ⟨b, off, none⟩) len cap], .int .i64 p] w fun e w' => e = .returned (EV (ckf 4 na0 p f.d)) ∧ Below w.heap.size w w' := by
  have hx := bw1 w (CO (.slice (some ⟨b, off, none⟩) len cap))
  obtain ⟨c0, c1, c2, c3, c4, c5, c6, c7, c8⟩ := hc.later hx
  obtain ⟨d, au, cu, ac, cc, ai, ci, an, cn⟩ := f
  simp only at c0 c1 c2 c3 c4 c5 c6 c7 c8 ok hr0 hr1
  have HC : Hid (Cell9 w b (off + p * 9) ⟨d, au, cu, ac, cc, ai, ci, an, cn⟩) := hc
  have HO : Hid d.ok := ok
  have HLX : Hid (SlA w 4 ND.cells an d.named) := hlie.n
  have hlx : d.named.length ≤ 1048576 := ok.ln
  clear hx hc ok hlie
  go_enter Tryz.func50, Tryz.ntmps50
  go_wp2_with fail
  clear c0 c1 c2 c3 c4 c5 c6 c7 c8
  go_loopw [16] (fun i wr => ∃ q : Nat, q ≤ d.named.length ∧ q ≤ 500 ∧ i = .int .i64 q ∧ Hid (ff (namedB d) (d.named.drop q) q = na0 p d) ∧ Below w.heap.size w wr ∧ Hid (wr.heap[w.heap.size]? = some (CO (.slice (some ⟨b, off, none⟩) len cap))) ∧ Hid (wr.heap[w.heap.size + 1]? = some (PO ⟨d, au, cu, ac, cc, ai, ci, an, cn⟩))) (fun i _ => d.named.length - (intOf i).toNat)
  case atStart => exact ⟨0, Nat.zero_le _, by omega, rfl, rfl, bw2 _ _ _, blk_old (blk_new _ _) _, blk_newn (by simp) _⟩
  case round =>
    obtain ⟨q, hq, h5, rfl, HG, hB, B0, BF⟩ := hrel
    by_cases k2 : q < d.named.length
    · obtain ⟨v, hv⟩ : ∃ v, d.named[q]? = some v := ⟨d.named[q]'k2, by simp⟩
      obtain ⟨bc, oc, rfl, _, hcv⟩ := HLX.out q v hv
      have v0 : wr.cell? ⟨bc, oc + q * 4, none⟩ = some (.string v.s) := cell_later hB (hcv 0 _ rfl)
      have v1 : wr.cell? ⟨bc, oc + q * 4 + 1, none⟩ = some (.int .i64 v.reg) := cell_later hB (hcv 1 _ rfl)
      have v2 : wr.cell? ⟨bc, oc + q * 4 + 2, none⟩ = some (.int .i64 v.fr) := cell_later hB (hcv 2 _ rfl)
      have v3 : wr.cell? ⟨bc, oc + q * 4 + 3, none⟩ = some (.int .i64 v.to) := cell_later hB (hcv 3 _ rfl)
      have hsz := HO.out.n v (List.mem_of_getElem? hv)
      have HE : Hid ((if namedB d q v = true then ff (namedB d) (d.named.drop (q + 1)) (q + 1) else some q) = na0 p d) := by have h := HG.out; rw [ff_drop _ hv] at h; exact h
      clear HG hv hcv
      have hy := bw1 wr (.cells #[.string v.s, .int .i64 v.reg, .int .i64 v.fr, .int .i64 v.to] 116)
      have hBa := hB.trans (hy.mono hB.size)
      have B0a : Hid _ := blk_later hy B0.out
      have BFa : Hid _ := blk_later hy BF.out
      have p0 : (wr.alloc (.cells #[.string v.s, .int .i64 v.reg, .int .i64 v.fr, .int .i64 v.to] 116)).cell? ⟨w.heap.size + 1, 0, none⟩ = some (.string d.name) := by rw [blk_cell BFa.out]; rfl
      have p1 : (wr.alloc (.cells #[.string v.s, .int .i64 v.reg, .int .i64 v.fr, .int .i64 v.to] 116)).cell? ⟨w.heap.size + 1, 1, none⟩ = some (.int .i64 d.line) := by rw [blk_cell BFa.out]; rfl
      have p2 : (wr.alloc (.cells #[.string v.s, .int .i64 v.reg, .int .i64 v.fr, .int .i64 v.to] 116)).cell? ⟨w.heap.size + 1, 2, none⟩ = some (.int .i64 d.params) := by rw [blk_cell BFa.out]; rfl
      have p3 : (wr.alloc (.cells #[.string v.s, .int .i64 v.reg, .int .i64 v.fr, .int .i64 v.to] 116)).cell? ⟨w.heap.size + 1, 3, none⟩ = some (.bool d.rest) := by rw [blk_cell BFa.out]; rfl
      have p4 : (wr.alloc (.cells #[.string v.s, .int .i64 v.reg, .int .i64 v.fr, .int .i64 v.to] 116)).cell? ⟨w.heap.size + 1, 4, none⟩ = some (.int .i64 d.regs) := by rw [blk_cell BFa.out]; rfl
      have p5 : (wr.alloc (.cells #[.string v.s, .int .i64 v.reg, .int .i64 v.fr, .int .i64 v.to] 116)).cell? ⟨w.heap.size + 1, 5, none⟩ = some (.slice au d.ups.length cu) := by rw [blk_cell BFa.out]; rfl
      have p6 : (wr.alloc (.cells #[.string v.s, .int .i64 v.reg, .int .i64 v.fr, .int .i64 v.to] 116)).cell? ⟨w.heap.size + 1, 6, none⟩ = some (.slice ac d.consts.length cc) := by rw [blk_cell BFa.out]; rfl
      have p7 : (wr.alloc (.cells #[.string v.s, .int .i64 v.reg, .int .i64 v.fr, .int .i64 v.to] 116)).cell? ⟨w.heap.size + 1, 7, none⟩ = some (.slice ai d.ins.length ci) := by rw [blk_cell BFa.out]; rfl
      have p8 : (wr.alloc (.cells #[.string v.s, .int .i64 v.reg, .int .i64 v.fr, .int .i64 v.to] 116)).cell? ⟨w.heap.size + 1, 8, none⟩ = some (.slice (some ⟨bc, oc, none⟩) d.named.length cn) := by rw [blk_cell BFa.out]; rfl
      clear hB B0 hy BF
      by_cases h50 : q = 500
      · have h50' : ((q : Int) == 500) = true := by simp [h50]
        have hh : namedB d q v = false := by simp [named_nam, h50]
        have HR : Hid (ckf 4 na0 p d = some (4, (p : Int), (q : Int))) := ckf_some (by have h := HE.out; rw [hh, if_neg (by simp)] at h; exact h.symm)
        clear h50
        go_wp2_with (go_at_call 47; refine (fat_any _ _ _ _).mono ?_; rintro e w' ⟨rfl, rfl⟩)
        go_ret
        exact ⟨by show _ = Ending.returned (EV (ckf 4 na0 p d)); rw [HR.out]; rfl, hBa⟩
      have h50' : ((q : Int) == 500) = false := by simp; omega
      cases hn : nam1 d v
      · have hh : namedB d q v = false := by simp [named_nam, hn]
        have HR : Hid (ckf 4 na0 p d = some (4, (p : Int), (q : Int))) := ckf_some (by have h := HE.out; rw [hh, if_neg (by simp)] at h; exact h.symm)
        go_wp2_with fail
        refine (inamed_any ⟨d, au, cu, ac, cc, ai, ci, some ⟨bc, oc, none⟩, cn⟩ v _ hsz HO.out hr0 hr1).mono ?_
        rw [hn]
        rintro e w2 ⟨rfl, hx⟩
        replace hBa := hBa.trans (hx.mono hBa.size)
        replace B0a : Hid _ := blk_later hx B0a.out
        replace BFa : Hid _ := blk_later hx BFa.out
        clear hx v0 v1 v2 v3 p0 p1 p2 p3 p4 p5 p6 p7 p8
        go_wp2_with (go_at_call 47; refine (fat_any _ _ _ _).mono ?_; rintro e w' ⟨rfl, rfl⟩)
        go_ret
        exact ⟨by show _ = Ending.returned (EV (ckf 4 na0 p d)); rw [HR.out]; rfl, hBa⟩
      · have hh : namedB d q v = true := by rw [named_nam, hn]; simp; omega
        have HG1 : Hid (ff (namedB d) (d.named.drop (q + 1)) (q + 1) = na0 p d) := by have h := HE.out; rw [hh, if_pos rfl] at h; exact h
        go_wp2_with fail
        refine (inamed_any ⟨d, au, cu, ac, cc, ai, ci, some ⟨bc, oc, none⟩, cn⟩ v _ hsz HO.out hr0 hr1).mono ?_
        rw [hn]
        rintro e w2 ⟨rfl, hx⟩
        replace hBa := hBa.trans (hx.mono hBa.size)
        replace B0a : Hid _ := blk_later hx B0a.out
        replace BFa : Hid _ := blk_later hx BFa.out
        clear hx v0 v1 v2 v3 p0 p1 p2 p3 p4 p5 p6 p7 p8
        go_wp2_with fail
        go_roundw
        case rel => exact ⟨q + 1, by omega, by omega, by go_num, HG1, hBa, B0a, BFa⟩
        case measure => simp [intOf]; omega
    · have HR : Hid (ckf 4 na0 p d = none) := ckf_none (by rw [← HG.out]; exact ff_end _ (by omega))
      clear HG
      go_wp2_with fail
      go_ret
      exact ⟨by show _ = Ending.returned (EV (ckf 4 na0 p d)); rw [HR.out]; rfl, hB⟩

set_option maxRecDepth 20000 in
set_option maxHeartbeats 8000000 in
theorem icki_any (b off len cap p : Nat) (f : FC) (w : World) (hpl : p < len) (hlen : len ≤ 1048576) (hc : Cell9 w b (off + p * 9) f) (ok : f.d.ok) (hlie : f.lie w) (hr0 : 0 ≤ f.d.regs) (hr1 : f.d.regs ≤ 250) (hlay : LayAt w) :
    Calls Tryz.prog 51 #[.agg #[.slice (some ⟨b, off, none⟩) len cap], .int .i64 p] w fun e w' => e = .returned (EV (ckf 5 (in0 len) p f.d)) ∧ Below w.heap.size w w' := by
  have hx := bw1 w (CO (.slice (some ⟨b, off, none⟩) len cap))
  obtain ⟨c0, c1, c2, c3, c4, c5, c6, c7, c8⟩ := hc.later hx
  obtain ⟨d, au, cu, ac, cc, ai, ci, an, cn⟩ := f
  simp only at c0 c1 c2 c3 c4 c5 c6 c7 c8 ok hr0 hr1
  have HC : Hid (Cell9 w b (off + p * 9) ⟨d, au, cu, ac, cc, ai, ci, an, cn⟩) := hc
  have HO : Hid d.ok := ok
  have HLX : Hid (SlA w 5 ID.cells ai d.ins) := hlie.i
  have hlx : d.ins.length ≤ 1048576 := ok.li
  have HLY : Hid (LayAt w) := hlay
  clear hx hc ok hlie hlay
  by_cases hemp : d.ins.length = 0
  · have hemp' : ((d.ins.length : Int) == 0) = true := by simp [hemp]
    have HR : Hid (ckf 5 (in0 len) p d = some (5, (p : Int), ((0 : Nat) : Int))) := ckf_some (by simp [in0, hemp])
    clear hemp
    go_enter Tryz.func51, Tryz.ntmps51
    go_wp2_with (go_at_call 47; refine (fat_any _ _ _ _).mono ?_; rintro e w' ⟨rfl, rfl⟩)
    go_ret
    exact ⟨by show _ = Ending.returned (EV (ckf 5 (in0 len) p d)); rw [HR.out]; rfl, bw1 _ _⟩
  have hemp' : ((d.ins.length : Int) == 0) = false := by simpa using hemp
  go_enter Tryz.func51, Tryz.ntmps51
  go_wp2_with fail
  clear c0 c1 c2 c3 c4 c5 c6 c7 c8
  go_loopw [22] (fun i wr => ∃ q : Nat, q ≤ d.ins.length ∧ i = .int .i64 q ∧ Hid (ff (insB len d) (d.ins.drop q) q = in0 len p d) ∧ Below w.heap.size w wr ∧ Hid (wr.heap[w.heap.size]? = some (CO (.slice (some ⟨b, off, none⟩) len cap)))) (fun i _ => d.ins.length - (intOf i).toNat)
  case atStart => exact ⟨0, Nat.zero_le _, rfl, by show ff (insB len d) (d.ins.drop 0) 0 = in0 len p d; rw [List.drop_zero, in0, if_neg hemp], bw1 _ _, blk_new _ _⟩
  case round =>
    obtain ⟨q, hq, rfl, HG, hB, B0⟩ := hrel
    by_cases k2 : q < d.ins.length
    · obtain ⟨v, hv⟩ : ∃ v, d.ins[q]? = some v := ⟨d.ins[q]'k2, by simp⟩
      obtain ⟨bc, oc, rfl, _, hcv⟩ := HLX.out q v hv
      have v0 : wr.cell? ⟨bc, oc + q * 5, none⟩ = some (.int .i64 v.op) := cell_later hB (hcv 0 _ rfl)
      have v1 : wr.cell? ⟨bc, oc + q * 5 + 1, none⟩ = some (.int .i64 v.a) := cell_later hB (hcv 1 _ rfl)
      have v2 : wr.cell? ⟨bc, oc + q * 5 + 2, none⟩ = some (.int .i64 v.b) := cell_later hB (hcv 2 _ rfl)
      have v3 : wr.cell? ⟨bc, oc + q * 5 + 3, none⟩ = some (.int .i64 v.c) := cell_later hB (hcv 3 _ rfl)
      have v4 : wr.cell? ⟨bc, oc + q * 5 + 4, none⟩ = some (.int .i64 v.d) := cell_later hB (hcv 4 _ rfl)
      have HE : Hid ((if insB len d q v = true then ff (insB len d) (d.ins.drop (q + 1)) (q + 1) else some q) = in0 len p d) := by have h := HG.out; rw [ff_drop _ hv] at h; exact h
      clear HG hv hcv
      have hy := bw1 wr (.cells #[.int .i64 v.op, .int .i64 v.a, .int .i64 v.b, .int .i64 v.c, .int .i64 v.d] 52)
      have hBa := hB.trans (hy.mono hB.size)
      have B0a : Hid _ := blk_later hy B0.out
      have a0 : (wr.alloc (.cells #[.int .i64 v.op, .int .i64 v.a, .int .i64 v.b, .int .i64 v.c, .int .i64 v.d] 52)).cell? ⟨w.heap.size, 0, none⟩ = some (.slice (some ⟨b, off, none⟩) len cap) := by rw [blk_cell B0a.out]; rfl
      clear hB B0 hy
      by_cases he : q + 1 = d.ins.length
      · have he' : ((q : Int) == (d.ins.length : Int) - 1) = true := by simp; omega
        have HEQ : Hid ((q + 1 == d.ins.length) = true) := by show (q + 1 == d.ins.length) = true; simpa using he
        clear he
        cases hn : fieldsB len d v
        · have hh : insB len d q v = false := by simp [insB, hn]
          have HR : Hid (ckf 5 (in0 len) p d = some (5, (p : Int), (q : Int))) := ckf_some (by have h := HE.out; rw [hh, if_neg (by simp)] at h; exact h.symm)
          go_wp2_with fail
          refine (iins_any b off len cap p ⟨d, au, cu, ac, cc, some ⟨bc, oc, none⟩, ci, an, cn⟩ v _ hpl hlen (HC.out.later hBa) HO.out hr0 hr1 (HLY.out.later hBa)).mono ?_
          rw [hn]
          rintro e w2 ⟨rfl, hx⟩
          have n0 : w2.cell? ⟨wr.heap.size, 0, none⟩ = some (.int .i64 v.op) := by rw [blk_cell (blk_later hx (blk_new _ _))]; rfl
          replace hBa := hBa.trans (hx.mono hBa.size)
          replace B0a : Hid _ := blk_later hx B0a.out
          clear hx v0 v1 v2 v3 v4 a0
          go_wp2_with (go_at_call 47; refine (fat_any _ _ _ _).mono ?_; rintro e w' ⟨rfl, rfl⟩)
          go_ret
          exact ⟨by show _ = Ending.returned (EV (ckf 5 (in0 len) p d)); rw [HR.out]; rfl, hBa⟩
        · cases hg : endsB v.op
          · have hh : insB len d q v = false := by unfold insB; rw [hn, hg, HEQ.out]; rfl
            have HR : Hid (ckf 5 (in0 len) p d = some (5, (p : Int), (q : Int))) := ckf_some (by have h := HE.out; rw [hh, if_neg (by simp)] at h; exact h.symm)
            go_wp2_with fail
            refine (iins_any b off len cap p ⟨d, au, cu, ac, cc, some ⟨bc, oc, none⟩, ci, an, cn⟩ v _ hpl hlen (HC.out.later hBa) HO.out hr0 hr1 (HLY.out.later hBa)).mono ?_
            rw [hn]
            rintro e w2 ⟨rfl, hx⟩
            have n0 : w2.cell? ⟨wr.heap.size, 0, none⟩ = some (.int .i64 v.op) := by rw [blk_cell (blk_later hx (blk_new _ _))]; rfl
            replace hBa := hBa.trans (hx.mono hBa.size)
            replace B0a : Hid _ := blk_later hx B0a.out
            clear hx v0 v1 v2 v3 v4 a0
            go_wp2_with (first | (go_at_call 100; refine (goes_any _ _).mono ?_; rw [hg]; rintro e w' ⟨rfl, rfl⟩) | (go_at_call 47; refine (fat_any _ _ _ _).mono ?_; rintro e w' ⟨rfl, rfl⟩))
            go_ret
            exact ⟨by show _ = Ending.returned (EV (ckf 5 (in0 len) p d)); rw [HR.out]; rfl, hBa⟩
          · have hh : insB len d q v = true := by unfold insB; rw [hn, hg]; simp
            have HG1 : Hid (ff (insB len d) (d.ins.drop (q + 1)) (q + 1) = in0 len p d) := by have h := HE.out; rw [hh, if_pos rfl] at h; exact h
            go_wp2_with fail
            refine (iins_any b off len cap p ⟨d, au, cu, ac, cc, some ⟨bc, oc, none⟩, ci, an, cn⟩ v _ hpl hlen (HC.out.later hBa) HO.out hr0 hr1 (HLY.out.later hBa)).mono ?_
            rw [hn]
            rintro e w2 ⟨rfl, hx⟩
            have n0 : w2.cell? ⟨wr.heap.size, 0, none⟩ = some (.int .i64 v.op) := by rw [blk_cell (blk_later hx (blk_new _ _))]; rfl
            replace hBa := hBa.trans (hx.mono hBa.size)
            replace B0a : Hid _ := blk_later hx B0a.out
            clear hx v0 v1 v2 v3 v4 a0
            go_wp2_with (first | (go_at_call 100; refine (goes_any _ _).mono ?_; rw [hg]; rintro e w' ⟨rfl, rfl⟩) | (go_at_call 47; refine (fat_any _ _ _ _).mono ?_; rintro e w' ⟨rfl, rfl⟩))
            go_roundw
            case rel => exact ⟨q + 1, by omega, by go_num, HG1, hBa, B0a⟩
            case measure => simp [intOf]; omega
      · have he' : ((q : Int) == (d.ins.length : Int) - 1) = false := by simp; omega
        have HEQ : Hid ((q + 1 == d.ins.length) = false) := by show (q + 1 == d.ins.length) = false; simpa using he
        cases hn : fieldsB len d v
        · have hh : insB len d q v = false := by simp [insB, hn]
          have HR : Hid (ckf 5 (in0 len) p d = some (5, (p : Int), (q : Int))) := ckf_some (by have h := HE.out; rw [hh, if_neg (by simp)] at h; exact h.symm)
          go_wp2_with fail
          refine (iins_any b off len cap p ⟨d, au, cu, ac, cc, some ⟨bc, oc, none⟩, ci, an, cn⟩ v _ hpl hlen (HC.out.later hBa) HO.out hr0 hr1 (HLY.out.later hBa)).mono ?_
          rw [hn]
          rintro e w2 ⟨rfl, hx⟩
          have n0 : w2.cell? ⟨wr.heap.size, 0, none⟩ = some (.int .i64 v.op) := by rw [blk_cell (blk_later hx (blk_new _ _))]; rfl
          replace hBa := hBa.trans (hx.mono hBa.size)
          replace B0a : Hid _ := blk_later hx B0a.out
          clear hx v0 v1 v2 v3 v4 a0
          go_wp2_with (go_at_call 47; refine (fat_any _ _ _ _).mono ?_; rintro e w' ⟨rfl, rfl⟩)
          go_ret
          exact ⟨by show _ = Ending.returned (EV (ckf 5 (in0 len) p d)); rw [HR.out]; rfl, hBa⟩
        · have hh : insB len d q v = true := by unfold insB; rw [hn, HEQ.out]; rfl
          have HG1 : Hid (ff (insB len d) (d.ins.drop (q + 1)) (q + 1) = in0 len p d) := by have h := HE.out; rw [hh, if_pos rfl] at h; exact h
          go_wp2_with fail
          refine (iins_any b off len cap p ⟨d, au, cu, ac, cc, some ⟨bc, oc, none⟩, ci, an, cn⟩ v _ hpl hlen (HC.out.later hBa) HO.out hr0 hr1 (HLY.out.later hBa)).mono ?_
          rw [hn]
          rintro e w2 ⟨rfl, hx⟩
          have n0 : w2.cell? ⟨wr.heap.size, 0, none⟩ = some (.int .i64 v.op) := by rw [blk_cell (blk_later hx (blk_new _ _))]; rfl
          replace hBa := hBa.trans (hx.mono hBa.size)
          replace B0a : Hid _ := blk_later hx B0a.out
          clear hx v0 v1 v2 v3 v4 a0
          go_wp2_with fail
          go_roundw
          case rel => exact ⟨q + 1, by omega, by go_num, HG1, hBa, B0a⟩
          case measure => simp [intOf]; omega
    · have HR : Hid (ckf 5 (in0 len) p d = none) := ckf_none (by rw [← HG.out]; exact ff_end _ (by omega))
      clear HG
      go_wp2_with fail
      go_ret
      exact ⟨by show _ = Ending.returned (EV (ckf 5 (in0 len) p d)); rw [HR.out]; rfl, hB⟩
end Go.Proofs.YtfkeklndcjkgcaaGreatDoor

/-
  OWN WORK. The program's shape: checkFns.
-/
namespace Go.Proofs.YtfkeklndcjkgcaaGreatDoor
open Go.RowKit
attribute [local go_sem] run_store_float
set_option linter.unusedVariables false
set_option linter.unusedSimpArgs false

/-- No fault, or one. -/
def optF (t : F3) : Option F3 := if t.1 = 0 then none else some t
theorem fns_6 {c : List FD} {p i : Nat} {mk : List Bool} (h6 : f6 c c 0 (List.replicate c.length false) = (some (p, i), mk)) : optF (fnsV c) = some (6, (p : Int), (i : Int)) := by unfold fnsV; rw [h6]; rfl
theorem fns_7 {c : List FD} {mk : List Bool} (h6 : f6 c c 0 (List.replicate c.length false) = (none, mk)) {p : Nat} (h7 : ff (fun _ b => b) (mk.drop 1) 1 = some p) : optF (fnsV c) = some (7, (p : Int), 0) := by
  unfold fnsV; rw [h6]; show optF (match ff (fun _ b => b) (mk.drop 1) 1 with | some p => ((7 : Int), (p : Int), (0 : Int)) | none => (0, 0, 0)) = _; rw [h7]; rfl
theorem fns_0 {c : List FD} {mk : List Bool} (h6 : f6 c c 0 (List.replicate c.length false) = (none, mk)) (h7 : ff (fun _ b => b) (mk.drop 1) 1 = none) : optF (fnsV c) = none := by
  unfold fnsV; rw [h6]; show optF (match ff (fun _ b => b) (mk.drop 1) 1 with | some p => ((7 : Int), (p : Int), (0 : Int)) | none => (0, 0, 0)) = _; rw [h7]; rfl

set_option maxRecDepth 20000 in
set_option maxHeartbeats 8000000 in
theorem ifns_any (a : Option Addr) (len cap : Nat) (xs : List FC) (w : World) (H0 : CodeAt w a xs) (hl : xs.length = len) (hp0 : (partsV (xs.map FC.d)).1 = 0) :
    Calls Tryz.prog 52 #[.agg #[.slice a len cap]] w fun e w' => e = .returned (EV (optF (fnsV (xs.map FC.d)))) ∧ Below w.heap.size w w' := by
  have hlen : len ≤ 1048576 := by rw [← hl]; exact H0.len
  have H : Hid (CodeAt w a xs) := H0
  have HL : Hid (xs.length = len) := hl
  obtain ⟨cs, hcs⟩ : ∃ cs, cs = xs.map FC.d := ⟨_, rfl⟩
  have HM : Hid (cs = xs.map FC.d) := hcs
  have HCL : Hid (cs.length = len) := by show cs.length = len; rw [hcs, List.length_map, hl]
  rw [← hcs] at hp0 ⊢
  have HP3 : Hid (¬ badSize cs ∧ fp hd0 cs 0 = none ∧ fp co0 cs 0 = none ∧ fp na0 cs 0 = none ∧ fp (in0 cs.length) cs 0 = none) := parts_ok hp0
  clear H0 hl hcs hp0
  have hmk := make_bool len hlen (w.alloc (CO (.slice a len cap)))
  have hy2 := bw1 (w.alloc (CO (.slice a len cap))) (.cells (mb (List.replicate len false)) 4)
  have B0n : Hid _ := blk_later hy2 (blk_new w (CO (.slice a len cap)))
  have a1 : ((w.alloc (CO (.slice a len cap))).alloc (.cells (mb (List.replicate len false)) 4)).cell? ⟨w.heap.size, 0, none⟩ = some (.slice a len cap) := by rw [blk_cell B0n.out]; rfl
  obtain ⟨g, hg⟩ : ∃ g, g = w.heap.size + 1 := ⟨_, rfl⟩
  have BMn : Hid (((w.alloc (CO (.slice a len cap))).alloc (.cells (mb (List.replicate len false)) 4)).heap[g]? = some (.cells (mb (List.replicate len false)) 4)) := blk_newn (by rw [hg]; simp) _
  have hg1 : w.heap.size < g := by omega
  go_enter Tryz.func52, Tryz.ntmps52
  go_wp2_with fail
  rw [← hg]
  clear hg hmk a1 hy2
  go_loopw [16] (fun i wr => ∃ (m : Nat) (mk : List Bool), m ≤ len ∧ i = .int .i64 m ∧ mk.length = len ∧ Hid (f6 cs ((xs.drop m).map FC.d) m mk = f6 cs cs 0 (List.replicate len false)) ∧ Below w.heap.size w wr ∧ Hid (wr.heap[w.heap.size]? = some (CO (.slice a len cap))) ∧ Hid (wr.heap[g]? = some (.cells (mb mk) 4))) (fun i _ => len - (intOf i).toNat)
  case atStart => exact ⟨0, List.replicate len false, Nat.zero_le _, rfl, List.length_replicate .., by show f6 cs ((xs.drop 0).map FC.d) 0 _ = _; rw [List.drop_zero, ← HM.out], bw2 _ _ _, B0n, BMn⟩
  case round =>
    clear B0n BMn
    obtain ⟨m, mk, hm, rfl, hml, HF, hB, B0, BM⟩ := hrel
    by_cases k1 : m < len
    · obtain ⟨f, hf⟩ : ∃ f, xs[m]? = some f := ⟨xs[m]'(by rw [HL.out]; exact k1), by simp⟩
      obtain ⟨b, off, rfl, hb, hc⟩ := H.out.nine hf
      have hok := H.out.ok f (List.mem_of_getElem? hf)
      have HLI : Hid (f.lie w) := H.out.lie f (List.mem_of_getElem? hf)
      have hcm : cs[m]? = some f.d := by rw [HM.out]; exact map_at hf
      obtain ⟨hr0, hr1⟩ := regs_of HP3.out.2.1 hcm
      have HIN : Hid (∀ q n, f.d.ins[q]? = some n → insB len f.d q n = true) := fun q n hq => by have h := ins_ok HP3.out.2.2.2.2 hcm hq; rw [HCL.out] at h; exact h
      have HD : Hid ((match f6i cs m f.d f.d.ins 0 mk with | (some i, k) => (some (m, i), k) | (none, k) => f6 cs ((xs.drop (m + 1)).map FC.d) (m + 1) k) = f6 cs cs 0 (List.replicate len false)) := by have h := HF.out; rw [f6_drop hf] at h; exact h
      clear HF hf hb hcm
      obtain ⟨d, au, cu, ac, cc, ai, ci, an, cn⟩ := f
      obtain ⟨c0, c1, c2, c3, c4, c5, c6, c7, c8⟩ := hc.later hB
      simp only at c0 c1 c2 c3 c4 c5 c6 c7 c8 hok HD hr0 hr1 HIN
      have HLX : Hid (SlA w 5 ID.cells ai d.ins) := HLI.out.i
      have hlx : d.ins.length ≤ 1048576 := hok.li
      have HOK : Hid d.ok := hok
      clear hok hc HLI
      go_wp2_with fail
      obtain ⟨gf, hgf⟩ : ∃ gf, gf = wr.heap.size := ⟨_, rfl⟩
      have BF : Hid ((wr.alloc (PO ⟨d, au, cu, ac, cc, ai, ci, an, cn⟩)).heap[gf]? = some (PO ⟨d, au, cu, ac, cc, ai, ci, an, cn⟩)) := blk_newn hgf.symm _
      have hgl := blk_lt BM.out
      have hgf1 : g < gf := by omega
      rw [← hgf]
      clear hgf hgl c0 c1 c2 c3 c4 c5 c6 c7 c8
      go_loopw [24] (fun i wr => ∃ (q : Nat) (mq : List Bool), q ≤ d.ins.length ∧ i = .int .i64 q ∧ mq.length = len ∧ Hid (f6i cs m d (d.ins.drop q) q mq = f6i cs m d d.ins 0 mk) ∧ Below w.heap.size w wr ∧ Hid (wr.heap[w.heap.size]? = some (CO (.slice (some ⟨b, off, none⟩) len cap))) ∧ Hid (wr.heap[g]? = some (.cells (mb mq) 4)) ∧ Hid (wr.heap[gf]? = some (PO ⟨d, au, cu, ac, cc, ai, ci, an, cn⟩))) (fun i _ => d.ins.length - (intOf i).toNat)
      case atStart => exact ⟨0, mk, Nat.zero_le _, rfl, hml, rfl, below_alloc hB _, blk_old B0.out _, blk_old BM.out _, BF⟩
      case round =>
        clear hB B0 BM hml BF
        obtain ⟨q, mq, hq, rfl, hml, HG, hB, B0, BM, BF⟩ := hrel
        by_cases k2 : q < d.ins.length
        · obtain ⟨n, hn⟩ : ∃ n, d.ins[q]? = some n := ⟨d.ins[q]'k2, by simp⟩
          obtain ⟨bi, oi, rfl, _, hci⟩ := HLX.out q n hn
          have hib := HIN.out q n hn
          have HE : Hid ((if n.op = 11 then (if fnB cs m d n mq = true then f6i cs m d (d.ins.drop (q + 1)) (q + 1) (mq.set n.b.toNat true) else (some q, mq)) else f6i cs m d (d.ins.drop (q + 1)) (q + 1) mq) = f6i cs m d d.ins 0 mk) := by have h := HG.out; rw [f6i_drop hn] at h; exact h
          have v1 : wr.cell? ⟨bi, oi + q * 5 + 1, none⟩ = some (.int .i64 n.a) := cell_later hB (hci 1 _ rfl)
          have v3 : wr.cell? ⟨bi, oi + q * 5 + 3, none⟩ = some (.int .i64 n.c) := cell_later hB (hci 3 _ rfl)
          have v4 : wr.cell? ⟨bi, oi + q * 5 + 4, none⟩ = some (.int .i64 n.d) := cell_later hB (hci 4 _ rfl)
          by_cases h11 : n.op = 11
          · obtain ⟨hb0, hb1⟩ := fn_b hib h11
            obtain ⟨nb, hnb⟩ : ∃ nb : Nat, n.b = nb := ⟨n.b.toNat, by omega⟩
            have hnl : nb < len := by omega
            have v0 : wr.cell? ⟨bi, oi + q * 5, none⟩ = some (.int .i64 11) := by rw [← h11]; exact cell_later hB (hci 0 _ rfl)
            have v2 : wr.cell? ⟨bi, oi + q * 5 + 2, none⟩ = some (.int .i64 nb) := by rw [← hnb]; exact cell_later hB (hci 2 _ rfl)
            have hnt : n.b.toNat = nb := by omega
            obtain ⟨k, hk⟩ : ∃ k, xs[nb]? = some k := ⟨xs[nb]'(by rw [HL.out]; exact hnl), by simp⟩
            have hck : cs.getD nb fd0 = k.d := by rw [HM.out, List.getD_eq_getElem?_getD, map_at hk]; rfl
            have HFB : Hid (fnB cs m d n mq = !(decide (nb ≤ m) || mq.getD nb false || !upsB d k.d.ups)) := by show fnB cs m d n mq = _; unfold fnB; rw [hnt, hck, hnb]; simp
            obtain ⟨b2, off2, hbe, _, hck9⟩ := H.out.nine hk
            simp only [Option.some.injEq, Addr.mk.injEq, and_true] at hbe
            obtain ⟨rfl, rfl⟩ := hbe
            have HK5 : Hid (w.cell? ⟨b, off + nb * 9 + 5, none⟩ = some (.slice k.au k.d.ups.length k.cu)) := hck9.c5
            have HKL : Hid (SlA w 2 UD.cells k.au k.d.ups) := (H.out.lie k (List.mem_of_getElem? hk)).u
            have HKO : Hid (k.d.ups.length ≤ 1048576) := (H.out.ok k (List.mem_of_getElem? hk)).lu
            rw [hnt, if_pos h11] at HE
            clear hck9 hk hck hnt hib hci hn HG h11 hb0 hb1 hnb
            obtain ⟨w2, hw2, hy, BN, _⟩ := newblk wr (.cells #[.int .i64 11, .int .i64 n.a, .int .i64 nb, .int .i64 n.c, .int .i64 n.d] 52)
            have n2 : w2.cell? ⟨wr.heap.size, 2, none⟩ = some (.int .i64 nb) := by rw [blk_cell BN]; rfl
            have hBa := hB.trans (hy.mono hB.size)
            have B0a : Hid _ := blk_later hy B0.out
            have BMa : Hid _ := blk_later hy BM.out
            have BFa : Hid _ := blk_later hy BF.out
            have BNa : Hid _ := BN
            have mc : w2.cell? ⟨g, nb, none⟩ = some (.bool (mq.getD nb false)) := by rw [blk_cell BMa.out]; exact mb_get _ _ (by omega)
            have a0 : w2.cell? ⟨w.heap.size, 0, none⟩ = some (.slice (some ⟨b, off, none⟩) len cap) := by rw [blk_cell B0a.out]; rfl
            have k5 := cell_later hBa HK5.out
            have p0 : w2.cell? ⟨gf, 0, none⟩ = some (.string d.name) := by rw [blk_cell BFa.out]; rfl
            have p1 : w2.cell? ⟨gf, 1, none⟩ = some (.int .i64 d.line) := by rw [blk_cell BFa.out]; rfl
            have p2 : w2.cell? ⟨gf, 2, none⟩ = some (.int .i64 d.params) := by rw [blk_cell BFa.out]; rfl
            have p3 : w2.cell? ⟨gf, 3, none⟩ = some (.bool d.rest) := by rw [blk_cell BFa.out]; rfl
            have p4 : w2.cell? ⟨gf, 4, none⟩ = some (.int .i64 d.regs) := by rw [blk_cell BFa.out]; rfl
            have p5 : w2.cell? ⟨gf, 5, none⟩ = some (.slice au d.ups.length cu) := by rw [blk_cell BFa.out]; rfl
            have p6 : w2.cell? ⟨gf, 6, none⟩ = some (.slice ac d.consts.length cc) := by rw [blk_cell BFa.out]; rfl
            have p7 : w2.cell? ⟨gf, 7, none⟩ = some (.slice (some ⟨bi, oi, none⟩) d.ins.length ci) := by rw [blk_cell BFa.out]; rfl
            have p8 : w2.cell? ⟨gf, 8, none⟩ = some (.slice an d.named.length cn) := by rw [blk_cell BFa.out]; rfl
            clear hB B0 BM BF BN
            by_cases hle : nb ≤ m
            · have hle' : decide ((nb : Int) ≤ (m : Int)) = true := by simpa using hle
              have HR : Hid (optF (fnsV cs) = some (6, (m : Int), (q : Int))) := by
                have h1 : fnB cs m d n mq = false := by rw [HFB.out]; simp [hle]
                have h2 := HE.out
                rw [h1, if_neg (by simp)] at h2
                have h3 := HD.out
                rw [← h2] at h3
                rw [← HCL.out] at h3
                exact fns_6 h3.symm
              go_wp2_with fail
              rw [← hw2]
              have e0 := lat_cell n2; have e1 := lat_cell mc; have e2 := lat_cell a0; have e3 := lat_cell k5; have f0 := lat_cell p0; have f1 := lat_cell p1; have f2 := lat_cell p2; have f3 := lat_cell p3; have f4 := lat_cell p4; have f5 := lat_cell p5; have f6 := lat_cell p6; have f7 := lat_cell p7; have f8 := lat_cell p8
              have HSX : Hid (∀ x : Lat w2, SlA x.wd 2 UD.cells k.au k.d.ups) := fun x => (HKL.out.later hBa).later x.below
              haveI := lat_some w2
              clear hw2 hy n2 mc a0 k5 p0 p1 p2 p3 p4 p5 p6 p7 p8 v0 v1 v2 v3 v4
              refine wp_region_lat (by kernel_rfl) (by kernel_rfl) ?_
              repeat (go_big_quiet_step (fail))
              refine wpQuiet_nil ?_
              rintro _ ⟨nq, rfl⟩
              have hz := hBa.trans (nq.below.mono hBa.size)
              clear e0 e1 e2 e3 f0 f1 f2 f3 f4 f5 f6 f7 f8
              go_wp2_with (go_at_call 47; refine (fat_any _ _ _ _).mono ?_; rintro e w' ⟨rfl, rfl⟩)
              go_ret
              exact ⟨by rw [HR.out]; rfl, hz⟩
            have hle' : decide ((nb : Int) ≤ (m : Int)) = false := by simpa using hle
            cases hmd : mq.getD nb false
            · rw [hmd] at mc
              cases hup : upsB d k.d.ups
              · skip
                have HR : Hid (optF (fnsV cs) = some (6, (m : Int), (q : Int))) := by
                  have h1 : fnB cs m d n mq = false := by rw [HFB.out, hup]; simp
                  have h2 := HE.out
                  rw [h1, if_neg (by simp)] at h2
                  have h3 := HD.out
                  rw [← h2] at h3
                  rw [← HCL.out] at h3
                  exact fns_6 h3.symm
                go_wp2_with fail
                rw [← hw2]
                have e0 := lat_cell n2; have e1 := lat_cell mc; have e2 := lat_cell a0; have e3 := lat_cell k5; have f0 := lat_cell p0; have f1 := lat_cell p1; have f2 := lat_cell p2; have f3 := lat_cell p3; have f4 := lat_cell p4; have f5 := lat_cell p5; have f6 := lat_cell p6; have f7 := lat_cell p7; have f8 := lat_cell p8
                have HSX : Hid (∀ x : Lat w2, SlA x.wd 2 UD.cells k.au k.d.ups) := fun x => (HKL.out.later hBa).later x.below
                haveI := lat_some w2
                clear hw2 hy n2 mc a0 k5 p0 p1 p2 p3 p4 p5 p6 p7 p8 v0 v1 v2 v3 v4
                refine wp_region_lat (by kernel_rfl) (by kernel_rfl) ?_
                repeat (go_big_quiet_step ((go_at_call 101; refine lat_calls ((iups_any k.au k.d.ups.length k.cu k.d.ups ⟨d, au, cu, ac, cc, some ⟨bi, oi, none⟩, ci, an, cn⟩ _ rfl (HSX.out _) HKO.out HOK.out hr0 hr1).mono fun _ _ h => by rw [hup] at h; exact h))))
                refine wpQuiet_nil ?_
                rintro _ ⟨nq, rfl⟩
                have hz := hBa.trans (nq.below.mono hBa.size)
                clear e0 e1 e2 e3 f0 f1 f2 f3 f4 f5 f6 f7 f8
                go_wp2_with (go_at_call 47; refine (fat_any _ _ _ _).mono ?_; rintro e w' ⟨rfl, rfl⟩)
                go_ret
                exact ⟨by rw [HR.out]; rfl, hz⟩
              · have HG1 : Hid (f6i cs m d (d.ins.drop (q + 1)) (q + 1) (mq.set nb true) = f6i cs m d d.ins 0 mk) := by
                  have h1 : fnB cs m d n mq = true := by rw [HFB.out, hmd, hup]; simp [hle]
                  have h2 := HE.out
                  rw [h1, if_pos rfl] at h2
                  exact h2
                clear HE HFB HD
                go_wp2_with fail
                rw [← hw2]
                have e0 := lat_cell n2; have e1 := lat_cell mc; have e2 := lat_cell a0; have e3 := lat_cell k5; have f0 := lat_cell p0; have f1 := lat_cell p1; have f2 := lat_cell p2; have f3 := lat_cell p3; have f4 := lat_cell p4; have f5 := lat_cell p5; have f6 := lat_cell p6; have f7 := lat_cell p7; have f8 := lat_cell p8
                have HSX : Hid (∀ x : Lat w2, SlA x.wd 2 UD.cells k.au k.d.ups) := fun x => (HKL.out.later hBa).later x.below
                haveI := lat_some w2
                clear hw2 hy n2 mc a0 k5 p0 p1 p2 p3 p4 p5 p6 p7 p8 v0 v1 v2 v3 v4
                refine wp_region_lat (by kernel_rfl) (by kernel_rfl) ?_
                repeat (go_big_quiet_step ((go_at_call 101; refine lat_calls ((iups_any k.au k.d.ups.length k.cu k.d.ups ⟨d, au, cu, ac, cc, some ⟨bi, oi, none⟩, ci, an, cn⟩ _ rfl (HSX.out _) HKO.out HOK.out hr0 hr1).mono fun _ _ h => by rw [hup] at h; exact h))))
                refine wpQuiet_nil ?_
                rintro _ ⟨nq, rfl⟩
                have hz := hBa.trans (nq.below.mono hBa.size)
                clear e0 e1 e2 e3 f0 f1 f2 f3 f4 f5 f6 f7 f8
                obtain ⟨w3, hw3⟩ : ∃ w3, w3 = nq.wd := ⟨_, rfl⟩
                have hb3 : Below w2.heap.size w2 w3 := by rw [hw3]; exact nq.below
                rw [← hw3] at hz ⊢
                clear hw3
                replace B0a : Hid _ := blk_later hb3 B0a.out
                replace BMa : Hid _ := blk_later hb3 BMa.out
                replace BFa : Hid _ := blk_later hb3 BFa.out
                replace BNa : Hid _ := blk_later hb3 BNa.out
                have n2 : w3.cell? ⟨wr.heap.size, 2, none⟩ = some (.int .i64 nb) := by rw [blk_cell BNa.out]; rfl
                have mc : w3.cell? ⟨g, nb, none⟩ = some (.bool (mq.getD nb false)) := by rw [blk_cell BMa.out]; exact mb_get _ _ (by omega)
                have z := blk_frozen BMa.out
                go_wp2_with fail
                go_roundw
                case rel => exact ⟨q + 1, mq.set nb true, by omega, by go_num, by rw [List.length_set]; exact hml, HG1, hz.setCell (p := ⟨g, nb, none⟩) (by simp; omega) _, blk_other B0a.out (by omega) _ _, by have h := blk_set BMa.out nb (.bool true); rw [mb_set] at h; exact h, blk_other BFa.out (by omega) _ _⟩
                case measure => simp [intOf]; omega
            · rw [hmd] at mc
              have HR : Hid (optF (fnsV cs) = some (6, (m : Int), (q : Int))) := by
                have h1 : fnB cs m d n mq = false := by rw [HFB.out, hmd]; simp
                have h2 := HE.out
                rw [h1, if_neg (by simp)] at h2
                have h3 := HD.out
                rw [← h2] at h3
                rw [← HCL.out] at h3
                exact fns_6 h3.symm
              go_wp2_with fail
              rw [← hw2]
              have e0 := lat_cell n2; have e1 := lat_cell mc; have e2 := lat_cell a0; have e3 := lat_cell k5; have f0 := lat_cell p0; have f1 := lat_cell p1; have f2 := lat_cell p2; have f3 := lat_cell p3; have f4 := lat_cell p4; have f5 := lat_cell p5; have f6 := lat_cell p6; have f7 := lat_cell p7; have f8 := lat_cell p8
              have HSX : Hid (∀ x : Lat w2, SlA x.wd 2 UD.cells k.au k.d.ups) := fun x => (HKL.out.later hBa).later x.below
              haveI := lat_some w2
              clear hw2 hy n2 mc a0 k5 p0 p1 p2 p3 p4 p5 p6 p7 p8 v0 v1 v2 v3 v4
              refine wp_region_lat (by kernel_rfl) (by kernel_rfl) ?_
              repeat (go_big_quiet_step (fail))
              refine wpQuiet_nil ?_
              rintro _ ⟨nq, rfl⟩
              have hz := hBa.trans (nq.below.mono hBa.size)
              clear e0 e1 e2 e3 f0 f1 f2 f3 f4 f5 f6 f7 f8
              go_wp2_with (go_at_call 47; refine (fat_any _ _ _ _).mono ?_; rintro e w' ⟨rfl, rfl⟩)
              go_ret
              exact ⟨by rw [HR.out]; rfl, hz⟩
          · have v0 : wr.cell? ⟨bi, oi + q * 5, none⟩ = some (.int .i64 n.op) := cell_later hB (hci 0 _ rfl)
            have v2 : wr.cell? ⟨bi, oi + q * 5 + 2, none⟩ = some (.int .i64 n.b) := cell_later hB (hci 2 _ rfl)
            have h11' : (n.op != 11) = true := by simpa using h11
            have HG1 : Hid (f6i cs m d (d.ins.drop (q + 1)) (q + 1) mq = f6i cs m d d.ins 0 mk) := by have h2 := HE.out; rw [if_neg h11] at h2; exact h2
            clear HE HG hn hci hib HD
            go_wp2_with fail
            go_roundw
            case rel => exact ⟨q + 1, mq, by omega, by go_num, hml, HG1, below_alloc hB _, blk_old B0.out _, blk_old BM.out _, blk_old BF.out _⟩
            case measure => simp [intOf]; omega
        · have HF1 : Hid (f6 cs ((xs.drop (m + 1)).map FC.d) (m + 1) mq = f6 cs cs 0 (List.replicate len false)) := by
            have h1 := HG.out
            rw [f6i_end (by omega)] at h1
            have h2 := HD.out
            rw [← h1] at h2
            exact h2
          clear HG HD
          go_wp2_with fail
          go_roundw
          case rel => exact ⟨m + 1, mq, by omega, by go_num, hml, HF1, hB, B0, BM⟩
          case measure => simp [intOf]; omega
    · have H6 : Hid (f6 cs cs 0 (List.replicate cs.length false) = (none, mk)) := by show f6 cs cs 0 _ = _; rw [HCL.out, ← HF.out, f6_end (by rw [HL.out]; omega)]
      have hlen1 : 1 ≤ len := by
        have h := HP3.out.1
        unfold badSize at h
        rw [HCL.out] at h
        omega
      clear HF
      go_wp2_with fail
      go_loopw [8] (fun i wr => ∃ p : Nat, p ≤ len ∧ 1 ≤ p ∧ i = .int .i64 p ∧ Hid (ff (fun _ b => b) (mk.drop p) p = ff (fun _ b => b) (mk.drop 1) 1) ∧ Below w.heap.size w wr ∧ Hid (wr.heap[g]? = some (.cells (mb mk) 4))) (fun i _ => len - (intOf i).toNat)
      case atStart => exact ⟨1, hlen1, by omega, rfl, rfl, hB, BM⟩
      case round =>
        clear hB B0 BM
        obtain ⟨p, hp, hp1, rfl, HF, hB, BM⟩ := hrel
        by_cases k2 : p < len
        · have hpm : mk[p]? = some (mk.getD p false) := by rw [List.getD_eq_getElem?_getD, List.getElem?_eq_getElem (by omega)]; rfl
          have mc : wr.cell? ⟨g, p, none⟩ = some (.bool (mk.getD p false)) := by rw [blk_cell BM.out]; exact mb_get _ _ (by omega)
          have HE : Hid ((if mk.getD p false = true then ff (fun _ b => b) (mk.drop (p + 1)) (p + 1) else some p) = ff (fun _ b => b) (mk.drop 1) 1) := by have h := HF.out; rw [ff_drop _ hpm] at h; exact h
          clear HF hpm
          cases hmd : mk.getD p false
          · rw [hmd] at mc
            have HR : Hid (optF (fnsV cs) = some (7, (p : Int), 0)) := fns_7 H6.out (by have h := HE.out; rw [hmd, if_neg (by simp)] at h; exact h.symm)
            go_wp2_with (go_at_call 47; refine (fat_any _ _ _ _).mono ?_; rintro e w' ⟨rfl, rfl⟩)
            go_ret
            exact ⟨by rw [HR.out]; rfl, hB⟩
          · rw [hmd] at mc
            have HF1 : Hid (ff (fun _ b => b) (mk.drop (p + 1)) (p + 1) = ff (fun _ b => b) (mk.drop 1) 1) := by have h := HE.out; rw [hmd, if_pos rfl] at h; exact h
            clear HE
            go_wp2_with fail
            go_roundw
            case rel => exact ⟨p + 1, by omega, by omega, by go_num, HF1, hB, BM⟩
            case measure => simp [intOf]; omega
        · have HR : Hid (optF (fnsV cs) = none) := fns_0 H6.out (by rw [← HF.out]; exact ff_end _ (by omega))
          clear HF
          go_wp2_with fail
          go_ret
          exact ⟨by rw [HR.out]; rfl, hB⟩
end Go.Proofs.YtfkeklndcjkgcaaGreatDoor

/-
  OWN WORK. The program's shape: checkShape.
-/
namespace Go.Proofs.YtfkeklndcjkgcaaGreatDoor
open Go.RowKit
set_option linter.unusedVariables false
set_option linter.unusedSimpArgs false

theorem opt_parts {c : List FD} {k : Int} {p i : Nat} (hk : k ≠ 0) (h : partsV c = (k, (p : Int), (i : Int))) : optF (shapeV c) = some (k, (p : Int), (i : Int)) := by
  have h0 : ¬ (partsV c).1 = 0 := by rw [h]; exact hk
  rw [shape_parts h0, h]
  unfold optF
  rw [if_neg hk]
theorem opt_fns {c : List FD} (h : partsV c = (0, 0, 0)) : optF (shapeV c) = optF (fnsV c) := by
  unfold shapeV; rw [if_pos (by rw [h])]

set_option maxRecDepth 20000 in
set_option maxHeartbeats 8000000 in
theorem ishape_any (a : Option Addr) (len cap : Nat) (xs : List FC) (w : World) (H0 : CodeAt w a xs) (hl : xs.length = len) (hlay : LayAt w) :
    Calls Tryz.prog 27 #[.agg #[.slice a len cap]] w fun e w' => e = .returned (EV (optF (shapeV (xs.map FC.d)))) ∧ Below w.heap.size w w' := by
  have hlen : len ≤ 1048576 := by rw [← hl]; exact H0.len
  have H : Hid (CodeAt w a xs) := H0
  have HLY : Hid (LayAt w) := hlay
  have HL : Hid (xs.length = len) := hl
  obtain ⟨cs, hcs⟩ : ∃ cs, cs = xs.map FC.d := ⟨_, rfl⟩
  have HM : Hid (cs = xs.map FC.d) := hcs
  have HCL : Hid (cs.length = len) := by show cs.length = len; rw [hcs, List.length_map, hl]
  rw [← hcs]
  clear H0 hl hlay hcs
  by_cases hb : badSize cs
  · have HR : Hid (optF (shapeV cs) = some (1, ((0 : Nat) : Int), ((0 : Nat) : Int))) := opt_parts (by omega) (parts_1 hb)
    go_enter Tryz.func27, Tryz.ntmps27
    go_wp2_with fail
    refine (isize_any a len cap xs _ (H.out.later (bw1 _ _)) HL.out false (by rw [← HM.out]; simpa using hb)).mono ?_
    rintro e w1 ⟨rfl, hx⟩
    have hB : Below w.heap.size w w1 := (bw1 _ _).trans (hx.mono (by simp))
    clear hx
    go_wp2_with (go_at_call 47; refine (fat_any _ _ _ _).mono ?_; rintro e w' ⟨rfl, rfl⟩)
    go_ret
    exact ⟨by rw [HR.out]; rfl, hB⟩
  · go_enter Tryz.func27, Tryz.ntmps27
    go_wp2_with fail
    refine (isize_any a len cap xs _ (H.out.later (bw1 _ _)) HL.out true (by rw [← HM.out]; simpa using hb)).mono ?_
    rintro e w1 ⟨rfl, hx⟩
    have B0 : Hid (w1.heap[w.heap.size]? = some (CO (.slice a len cap))) := blk_later hx (blk_new _ _)
    have hB : Below w.heap.size w w1 := (bw1 _ _).trans (hx.mono (by simp))
    clear hx
    have HB : Hid (¬ badSize cs) := hb
    obtain ⟨gk, hgk⟩ : ∃ gk, gk = w1.heap.size := ⟨_, rfl⟩
    have BKn : Hid ((w1.alloc (.cells #[.func (Fn.func 48) #[] #[], .func (Fn.func 49) #[] #[], .func (Fn.func 50) #[] #[], .func (Fn.func 51) #[] #[]] 99)).heap[gk]? = some (.cells #[.func (Fn.func 48) #[] #[], .func (Fn.func 49) #[] #[], .func (Fn.func 50) #[] #[], .func (Fn.func 51) #[] #[]] 99)) := blk_newn hgk.symm _
    go_wp2_with fail
    rw [← hgk]
    clear hgk hb
    go_loopw [13] (fun i wr => ∃ m : Nat, m ≤ 4 ∧ i = .int .i64 m ∧ Hid ((1 ≤ m → fp hd0 cs 0 = none) ∧ (2 ≤ m → fp co0 cs 0 = none) ∧ (3 ≤ m → fp na0 cs 0 = none) ∧ (4 ≤ m → fp (in0 len) cs 0 = none)) ∧ Below w.heap.size w wr ∧ Hid (wr.heap[w.heap.size]? = some (CO (.slice a len cap))) ∧ Hid (wr.heap[gk]? = some (.cells #[.func (Fn.func 48) #[] #[], .func (Fn.func 49) #[] #[], .func (Fn.func 50) #[] #[], .func (Fn.func 51) #[] #[]] 99))) (fun i _ => 4 - (intOf i).toNat)
    case atStart => exact ⟨0, by omega, rfl, ⟨fun h => absurd h (by omega), fun h => absurd h (by omega), fun h => absurd h (by omega), fun h => absurd h (by omega)⟩, below_alloc hB _, blk_old B0.out _, BKn⟩
    case round =>
      clear hB B0 BKn
      obtain ⟨m, hm, rfl, HF, hB, B0, BK⟩ := hrel
      have a0 : wr.cell? ⟨w.heap.size, 0, none⟩ = some (.slice a len cap) := by rw [blk_cell B0.out]; rfl
      by_cases k1 : m < 4
      · have hmc : m = 0 ∨ m = 1 ∨ m = 2 ∨ m = 3 := by omega
        rcases hmc with rfl | rfl | rfl | rfl
        · have fc : wr.cell? ⟨gk, 0, none⟩ = some (.func (Fn.func 48) #[] #[]) := by rw [blk_cell BK.out]; rfl
          go_wp2_with fail
          clear fc a0
          rw [show (((0 : Nat)) : Int) = 0 from rfl]
          go_loopw [20] (fun i wr => ∃ p : Nat, p ≤ len ∧ i = .int .i64 p ∧ Hid (fp hd0 ((xs.drop p).map FC.d) p = fp hd0 cs 0) ∧ Below w.heap.size w wr ∧ Hid (wr.heap[w.heap.size]? = some (CO (.slice a len cap))) ∧ Hid (wr.heap[gk]? = some (.cells #[.func (Fn.func 48) #[] #[], .func (Fn.func 49) #[] #[], .func (Fn.func 50) #[] #[], .func (Fn.func 51) #[] #[]] 99))) (fun i _ => len - (intOf i).toNat)
          case atStart => exact ⟨0, Nat.zero_le _, rfl, by show fp hd0 ((xs.drop 0).map FC.d) 0 = _; rw [HM.out, List.drop_zero], hB, B0, BK⟩
          case round =>
            clear hB B0 BK
            obtain ⟨p, hp, rfl, HG, hB, B0, BK⟩ := hrel
            by_cases k2 : p < len
            · have a0 : wr.cell? ⟨w.heap.size, 0, none⟩ = some (.slice a len cap) := by rw [blk_cell B0.out]; rfl
              obtain ⟨f, hf⟩ : ∃ f, xs[p]? = some f := ⟨xs[p]'(by rw [HL.out]; exact k2), by simp⟩
              obtain ⟨b, off, rfl, hb, hc⟩ := H.out.nine hf
              have hok := H.out.ok f (List.mem_of_getElem? hf)
              have HLI : Hid (f.lie w) := H.out.lie f (List.mem_of_getElem? hf)
              have HD : Hid ((match hd0 p f.d with | some j => some (p, j) | none => fp hd0 ((xs.drop (p + 1)).map FC.d) (p + 1)) = fp hd0 cs 0) := by have h := HG.out; rw [fp_drop _ hf] at h; exact h
              clear HG hf hb
              cases hh : hd0 p f.d with
              | some i =>
                have HR : Hid (optF (shapeV cs) = some (2, (p : Int), (i : Int))) := opt_parts (by omega) (parts_2 HB.out (by rw [← HD.out, hh]))
                go_wp2_with fail
                refine (ihead_any b off len cap p f _ k2 hlen (hc.later hB) hok).mono ?_
                rw [ckf_some hh, show EV (some ((2 : Int), (p : Int), (i : Int))) = .iface 142 (FV 2 p i) from rfl]
                rintro e w2 ⟨rfl, hx⟩
                replace hB := hB.trans (hx.mono hB.size)
                clear hx a0
                go_wp2_with fail
                go_ret
                exact ⟨by rw [HR.out]; rfl, hB⟩
              | none =>
                have HG1 : Hid (fp hd0 ((xs.drop (p + 1)).map FC.d) (p + 1) = fp hd0 cs 0) := by have h := HD.out; rw [hh] at h; exact h
                go_wp2_with fail
                refine (ihead_any b off len cap p f _ k2 hlen (hc.later hB) hok).mono ?_
                rw [ckf_none hh, show EV none = .nilIface from rfl]
                rintro e w2 ⟨rfl, hx⟩
                replace hB := hB.trans (hx.mono hB.size)
                replace B0 : Hid _ := blk_later hx B0.out
                replace BK : Hid _ := blk_later hx BK.out
                clear hx a0
                go_wp2_with fail
                go_roundw
                case rel => exact ⟨p + 1, by omega, by go_num, HG1, hB, B0, BK⟩
                case measure => simp [intOf]; omega
            · have hn : fp hd0 cs 0 = none := by rw [← HG.out]; exact drop_end (by rw [HL.out]; omega) _
              have HF1 : Hid ((1 ≤ 0 + 1 → fp hd0 cs 0 = none) ∧ (2 ≤ 0 + 1 → fp co0 cs 0 = none) ∧ (3 ≤ 0 + 1 → fp na0 cs 0 = none) ∧ (4 ≤ 0 + 1 → fp (in0 len) cs 0 = none)) := by
                refine ⟨fun h => ?_, fun h => ?_, fun h => ?_, fun h => ?_⟩
                · exact hn
                · exact absurd h (by omega)
                · exact absurd h (by omega)
                · exact absurd h (by omega)
              clear HG HF hn
              go_wp2_with fail
              go_roundw
              case rel => exact ⟨0 + 1, by omega, by go_num, HF1, hB, B0, BK⟩
              case measure => simp [intOf]
        · have fc : wr.cell? ⟨gk, 1, none⟩ = some (.func (Fn.func 49) #[] #[]) := by rw [blk_cell BK.out]; rfl
          go_wp2_with fail
          clear fc a0
          rw [show (((1 : Nat)) : Int) = 1 from rfl]
          go_loopw [20] (fun i wr => ∃ p : Nat, p ≤ len ∧ i = .int .i64 p ∧ Hid (fp co0 ((xs.drop p).map FC.d) p = fp co0 cs 0) ∧ Below w.heap.size w wr ∧ Hid (wr.heap[w.heap.size]? = some (CO (.slice a len cap))) ∧ Hid (wr.heap[gk]? = some (.cells #[.func (Fn.func 48) #[] #[], .func (Fn.func 49) #[] #[], .func (Fn.func 50) #[] #[], .func (Fn.func 51) #[] #[]] 99))) (fun i _ => len - (intOf i).toNat)
          case atStart => exact ⟨0, Nat.zero_le _, rfl, by show fp co0 ((xs.drop 0).map FC.d) 0 = _; rw [HM.out, List.drop_zero], hB, B0, BK⟩
          case round =>
            clear hB B0 BK
            obtain ⟨p, hp, rfl, HG, hB, B0, BK⟩ := hrel
            by_cases k2 : p < len
            · have a0 : wr.cell? ⟨w.heap.size, 0, none⟩ = some (.slice a len cap) := by rw [blk_cell B0.out]; rfl
              obtain ⟨f, hf⟩ : ∃ f, xs[p]? = some f := ⟨xs[p]'(by rw [HL.out]; exact k2), by simp⟩
              obtain ⟨b, off, rfl, hb, hc⟩ := H.out.nine hf
              have hok := H.out.ok f (List.mem_of_getElem? hf)
              have HLI : Hid (f.lie w) := H.out.lie f (List.mem_of_getElem? hf)
              have HD : Hid ((match co0 p f.d with | some j => some (p, j) | none => fp co0 ((xs.drop (p + 1)).map FC.d) (p + 1)) = fp co0 cs 0) := by have h := HG.out; rw [fp_drop _ hf] at h; exact h
              clear HG hf hb
              cases hh : co0 p f.d with
              | some i =>
                have HR : Hid (optF (shapeV cs) = some (3, (p : Int), (i : Int))) := opt_parts (by omega) (parts_3 HB.out (HF.out.1 (by omega)) (by rw [← HD.out, hh]))
                go_wp2_with fail
                refine (ickc_any b off len cap p f _ k2 hlen (hc.later hB) hok (HLI.out.later hB)).mono ?_
                rw [ckf_some hh, show EV (some ((3 : Int), (p : Int), (i : Int))) = .iface 142 (FV 3 p i) from rfl]
                rintro e w2 ⟨rfl, hx⟩
                replace hB := hB.trans (hx.mono hB.size)
                clear hx a0
                go_wp2_with fail
                go_ret
                exact ⟨by rw [HR.out]; rfl, hB⟩
              | none =>
                have HG1 : Hid (fp co0 ((xs.drop (p + 1)).map FC.d) (p + 1) = fp co0 cs 0) := by have h := HD.out; rw [hh] at h; exact h
                go_wp2_with fail
                refine (ickc_any b off len cap p f _ k2 hlen (hc.later hB) hok (HLI.out.later hB)).mono ?_
                rw [ckf_none hh, show EV none = .nilIface from rfl]
                rintro e w2 ⟨rfl, hx⟩
                replace hB := hB.trans (hx.mono hB.size)
                replace B0 : Hid _ := blk_later hx B0.out
                replace BK : Hid _ := blk_later hx BK.out
                clear hx a0
                go_wp2_with fail
                go_roundw
                case rel => exact ⟨p + 1, by omega, by go_num, HG1, hB, B0, BK⟩
                case measure => simp [intOf]; omega
            · have hn : fp co0 cs 0 = none := by rw [← HG.out]; exact drop_end (by rw [HL.out]; omega) _
              have HF1 : Hid ((1 ≤ 1 + 1 → fp hd0 cs 0 = none) ∧ (2 ≤ 1 + 1 → fp co0 cs 0 = none) ∧ (3 ≤ 1 + 1 → fp na0 cs 0 = none) ∧ (4 ≤ 1 + 1 → fp (in0 len) cs 0 = none)) := by
                refine ⟨fun h => ?_, fun h => ?_, fun h => ?_, fun h => ?_⟩
                · exact HF.out.1 (by omega)
                · exact hn
                · exact absurd h (by omega)
                · exact absurd h (by omega)
              clear HG HF hn
              go_wp2_with fail
              go_roundw
              case rel => exact ⟨1 + 1, by omega, by go_num, HF1, hB, B0, BK⟩
              case measure => simp [intOf]
        · have fc : wr.cell? ⟨gk, 2, none⟩ = some (.func (Fn.func 50) #[] #[]) := by rw [blk_cell BK.out]; rfl
          go_wp2_with fail
          clear fc a0
          rw [show (((2 : Nat)) : Int) = 2 from rfl]
          go_loopw [20] (fun i wr => ∃ p : Nat, p ≤ len ∧ i = .int .i64 p ∧ Hid (fp na0 ((xs.drop p).map FC.d) p = fp na0 cs 0) ∧ Below w.heap.size w wr ∧ Hid (wr.heap[w.heap.size]? = some (CO (.slice a len cap))) ∧ Hid (wr.heap[gk]? = some (.cells #[.func (Fn.func 48) #[] #[], .func (Fn.func 49) #[] #[], .func (Fn.func 50) #[] #[], .func (Fn.func 51) #[] #[]] 99))) (fun i _ => len - (intOf i).toNat)
          case atStart => exact ⟨0, Nat.zero_le _, rfl, by show fp na0 ((xs.drop 0).map FC.d) 0 = _; rw [HM.out, List.drop_zero], hB, B0, BK⟩
          case round =>
            clear hB B0 BK
            obtain ⟨p, hp, rfl, HG, hB, B0, BK⟩ := hrel
            by_cases k2 : p < len
            · have a0 : wr.cell? ⟨w.heap.size, 0, none⟩ = some (.slice a len cap) := by rw [blk_cell B0.out]; rfl
              obtain ⟨f, hf⟩ : ∃ f, xs[p]? = some f := ⟨xs[p]'(by rw [HL.out]; exact k2), by simp⟩
              obtain ⟨b, off, rfl, hb, hc⟩ := H.out.nine hf
              have hok := H.out.ok f (List.mem_of_getElem? hf)
              have HLI : Hid (f.lie w) := H.out.lie f (List.mem_of_getElem? hf)
              obtain ⟨hr0, hr1⟩ := regs_of (HF.out.1 (by omega)) (show cs[p]? = some f.d by rw [HM.out]; exact map_at hf)
              have HD : Hid ((match na0 p f.d with | some j => some (p, j) | none => fp na0 ((xs.drop (p + 1)).map FC.d) (p + 1)) = fp na0 cs 0) := by have h := HG.out; rw [fp_drop _ hf] at h; exact h
              clear HG hf hb
              cases hh : na0 p f.d with
              | some i =>
                have HR : Hid (optF (shapeV cs) = some (4, (p : Int), (i : Int))) := opt_parts (by omega) (parts_4 HB.out (HF.out.1 (by omega)) (HF.out.2.1 (by omega)) (by rw [← HD.out, hh]))
                go_wp2_with fail
                refine (ickn_any b off len cap p f _ k2 hlen (hc.later hB) hok (HLI.out.later hB) hr0 hr1).mono ?_
                rw [ckf_some hh, show EV (some ((4 : Int), (p : Int), (i : Int))) = .iface 142 (FV 4 p i) from rfl]
                rintro e w2 ⟨rfl, hx⟩
                replace hB := hB.trans (hx.mono hB.size)
                clear hx a0
                go_wp2_with fail
                go_ret
                exact ⟨by rw [HR.out]; rfl, hB⟩
              | none =>
                have HG1 : Hid (fp na0 ((xs.drop (p + 1)).map FC.d) (p + 1) = fp na0 cs 0) := by have h := HD.out; rw [hh] at h; exact h
                go_wp2_with fail
                refine (ickn_any b off len cap p f _ k2 hlen (hc.later hB) hok (HLI.out.later hB) hr0 hr1).mono ?_
                rw [ckf_none hh, show EV none = .nilIface from rfl]
                rintro e w2 ⟨rfl, hx⟩
                replace hB := hB.trans (hx.mono hB.size)
                replace B0 : Hid _ := blk_later hx B0.out
                replace BK : Hid _ := blk_later hx BK.out
                clear hx a0
                go_wp2_with fail
                go_roundw
                case rel => exact ⟨p + 1, by omega, by go_num, HG1, hB, B0, BK⟩
                case measure => simp [intOf]; omega
            · have hn : fp na0 cs 0 = none := by rw [← HG.out]; exact drop_end (by rw [HL.out]; omega) _
              have HF1 : Hid ((1 ≤ 2 + 1 → fp hd0 cs 0 = none) ∧ (2 ≤ 2 + 1 → fp co0 cs 0 = none) ∧ (3 ≤ 2 + 1 → fp na0 cs 0 = none) ∧ (4 ≤ 2 + 1 → fp (in0 len) cs 0 = none)) := by
                refine ⟨fun h => ?_, fun h => ?_, fun h => ?_, fun h => ?_⟩
                · exact HF.out.1 (by omega)
                · exact HF.out.2.1 (by omega)
                · exact hn
                · exact absurd h (by omega)
              clear HG HF hn
              go_wp2_with fail
              go_roundw
              case rel => exact ⟨2 + 1, by omega, by go_num, HF1, hB, B0, BK⟩
              case measure => simp [intOf]
        · have fc : wr.cell? ⟨gk, 3, none⟩ = some (.func (Fn.func 51) #[] #[]) := by rw [blk_cell BK.out]; rfl
          go_wp2_with fail
          clear fc a0
          rw [show (((3 : Nat)) : Int) = 3 from rfl]
          go_loopw [20] (fun i wr => ∃ p : Nat, p ≤ len ∧ i = .int .i64 p ∧ Hid (fp (in0 len) ((xs.drop p).map FC.d) p = fp (in0 len) cs 0) ∧ Below w.heap.size w wr ∧ Hid (wr.heap[w.heap.size]? = some (CO (.slice a len cap))) ∧ Hid (wr.heap[gk]? = some (.cells #[.func (Fn.func 48) #[] #[], .func (Fn.func 49) #[] #[], .func (Fn.func 50) #[] #[], .func (Fn.func 51) #[] #[]] 99))) (fun i _ => len - (intOf i).toNat)
          case atStart => exact ⟨0, Nat.zero_le _, rfl, by show fp (in0 len) ((xs.drop 0).map FC.d) 0 = _; rw [HM.out, List.drop_zero], hB, B0, BK⟩
          case round =>
            clear hB B0 BK
            obtain ⟨p, hp, rfl, HG, hB, B0, BK⟩ := hrel
            by_cases k2 : p < len
            · have a0 : wr.cell? ⟨w.heap.size, 0, none⟩ = some (.slice a len cap) := by rw [blk_cell B0.out]; rfl
              obtain ⟨f, hf⟩ : ∃ f, xs[p]? = some f := ⟨xs[p]'(by rw [HL.out]; exact k2), by simp⟩
              obtain ⟨b, off, rfl, hb, hc⟩ := H.out.nine hf
              have hok := H.out.ok f (List.mem_of_getElem? hf)
              have HLI : Hid (f.lie w) := H.out.lie f (List.mem_of_getElem? hf)
              obtain ⟨hr0, hr1⟩ := regs_of (HF.out.1 (by omega)) (show cs[p]? = some f.d by rw [HM.out]; exact map_at hf)
              have HD : Hid ((match (in0 len) p f.d with | some j => some (p, j) | none => fp (in0 len) ((xs.drop (p + 1)).map FC.d) (p + 1)) = fp (in0 len) cs 0) := by have h := HG.out; rw [fp_drop _ hf] at h; exact h
              clear HG hf hb
              cases hh : (in0 len) p f.d with
              | some i =>
                have HR : Hid (optF (shapeV cs) = some (5, (p : Int), (i : Int))) := opt_parts (by omega) (parts_5 HB.out (HF.out.1 (by omega)) (HF.out.2.1 (by omega)) (HF.out.2.2.1 (by omega)) (by rw [HCL.out, ← HD.out, hh]))
                go_wp2_with fail
                refine (icki_any b off len cap p f _ k2 hlen (hc.later hB) hok (HLI.out.later hB) hr0 hr1 (HLY.out.later hB)).mono ?_
                rw [ckf_some hh, show EV (some ((5 : Int), (p : Int), (i : Int))) = .iface 142 (FV 5 p i) from rfl]
                rintro e w2 ⟨rfl, hx⟩
                replace hB := hB.trans (hx.mono hB.size)
                clear hx a0
                go_wp2_with fail
                go_ret
                exact ⟨by rw [HR.out]; rfl, hB⟩
              | none =>
                have HG1 : Hid (fp (in0 len) ((xs.drop (p + 1)).map FC.d) (p + 1) = fp (in0 len) cs 0) := by have h := HD.out; rw [hh] at h; exact h
                go_wp2_with fail
                refine (icki_any b off len cap p f _ k2 hlen (hc.later hB) hok (HLI.out.later hB) hr0 hr1 (HLY.out.later hB)).mono ?_
                rw [ckf_none hh, show EV none = .nilIface from rfl]
                rintro e w2 ⟨rfl, hx⟩
                replace hB := hB.trans (hx.mono hB.size)
                replace B0 : Hid _ := blk_later hx B0.out
                replace BK : Hid _ := blk_later hx BK.out
                clear hx a0
                go_wp2_with fail
                go_roundw
                case rel => exact ⟨p + 1, by omega, by go_num, HG1, hB, B0, BK⟩
                case measure => simp [intOf]; omega
            · have hn : fp (in0 len) cs 0 = none := by rw [← HG.out]; exact drop_end (by rw [HL.out]; omega) _
              have HF1 : Hid ((1 ≤ 3 + 1 → fp hd0 cs 0 = none) ∧ (2 ≤ 3 + 1 → fp co0 cs 0 = none) ∧ (3 ≤ 3 + 1 → fp na0 cs 0 = none) ∧ (4 ≤ 3 + 1 → fp (in0 len) cs 0 = none)) := by
                refine ⟨fun h => ?_, fun h => ?_, fun h => ?_, fun h => ?_⟩
                · exact HF.out.1 (by omega)
                · exact HF.out.2.1 (by omega)
                · exact HF.out.2.2.1 (by omega)
                · exact hn
              clear HG HF hn
              go_wp2_with fail
              go_roundw
              case rel => exact ⟨3 + 1, by omega, by go_num, HF1, hB, B0, BK⟩
              case measure => simp [intOf]
      · have hm4 : m = 4 := by omega
        subst hm4
        obtain ⟨h2, h3, h4, h5⟩ := HF.out
        have HPZ : Hid (partsV cs = (0, 0, 0)) := parts_0 HB.out (h2 (by omega)) (h3 (by omega)) (h4 (by omega)) (by rw [HCL.out]; exact h5 (by omega))
        clear HF h2 h3 h4 h5
        go_wp2_with fail
        refine (ifns_any a len cap xs _ (H.out.later hB) HL.out (by rw [← HM.out, HPZ.out])).mono ?_
        rw [← HM.out, ← opt_fns HPZ.out]
        rintro e w2 ⟨rfl, hx⟩
        replace hB := hB.trans (hx.mono hB.size)
        clear hx a0
        go_wp2_with fail
        go_ret
        exact ⟨rfl, hB⟩
end Go.Proofs.YtfkeklndcjkgcaaGreatDoor
