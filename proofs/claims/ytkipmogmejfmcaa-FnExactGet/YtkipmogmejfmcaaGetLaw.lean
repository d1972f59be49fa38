/-
  OWN WORK. The law FnExactGet.
-/
import Derived.Test.YtkipmogmejfmcaaTOpen
import Derived.Test.YtkipmogmejfmcaaBGetO
namespace Go.Proofs.Ytkipmogmejfmcaa.lawGet
open Go.ChangeShapes Go.WideShapes Go.ChangeAt Go.RowKit
attribute [local go_sem] run_store_float
set_option linter.unusedVariables false

theorem flt_lt {f : Nat} (h : (Lit.float .f64 f).wf = true) : f < 18446744073709551616 := by simpa [Lit.wf] using h

theorem boxt (w : World) (a b : Value) (t : TypeId) : Below w.heap.size w (w.alloc (.cells #[a, b] t)) ∧ (w.alloc (.cells #[a, b] t)).cell? ⟨w.heap.size, 0, none⟩ = some a ∧ (w.alloc (.cells #[a, b] t)).cell? ⟨w.heap.size, 1, none⟩ = some b := by
  refine ⟨bw1 _ _, ?_, ?_⟩ <;> simp [go_sem]

theorem box0v {w w1 : World} {v0 v1 v2 v3 v4 : Value} {u : TypeId} (hb : Below (w.alloc (.cells #[v0, v1, v2, v3, v4] u)).heap.size (w.alloc (.cells #[v0, v1, v2, v3, v4] u)) w1) :
    Below w.heap.size w w1 ∧ Slot5 w1 w.heap.size := by
  refine ⟨(bw1 _ _).trans (hb.mono (by simp)), ⟨v0, v1, v2, v3, v4, u, ?_⟩⟩
  rw [hb.block _ (by simp)]
  show (w.heap.push _)[w.heap.size]? = _
  rw [Array.getElem?_push, if_pos rfl]

theorem vbox_set {w : World} {g : Nat} (h : Slot5 w g) (q : VD) : VBox (((((w.setCell ⟨g, 0, none⟩ (.int .i64 q.k)).setCell ⟨g, 1, none⟩ (.int .i64 q.n)).setCell ⟨g, 2, none⟩ (.float .f64 q.f)).setCell ⟨g, 3, none⟩ (.string q.s)).setCell ⟨g, 4, none⟩ (.int .i64 q.r)) g q := by
  obtain ⟨v0, v1, v2, v3, v4, t, h⟩ := h
  have hb := blk_set (blk_set (blk_set (blk_set (blk_set h 0 (.int .i64 q.k)) 1 (.int .i64 q.n)) 2 (.float .f64 q.f)) 3 (.string q.s)) 4 (.int .i64 q.r)
  refine ⟨?_, ?_, ?_, ?_, ?_⟩ <;> rw [blk_cell hb] <;> simp
theorem bt_set5 (w : World) (k : Nat) (v0 v1 v2 v3 v4 : Value) : Bt [k] w (((((w.setCell ⟨k, 0, none⟩ v0).setCell ⟨k, 1, none⟩ v1).setCell ⟨k, 2, none⟩ v2).setCell ⟨k, 3, none⟩ v3).setCell ⟨k, 4, none⟩ v4) :=
  (((((Bt.refl [k] w).setCell (p := ⟨k, 0, none⟩) (by simp) v0).setCell (p := ⟨k, 1, none⟩) (by simp) v1).setCell (p := ⟨k, 2, none⟩) (by simp) v2).setCell (p := ⟨k, 3, none⟩) (by simp) v3).setCell (p := ⟨k, 4, none⟩) (by simp) v4

theorem VBox.bt {S : List Nat} {w wx : World} {b : Nat} {v : VD} (hb : Bt S w wx) (hn : b ∉ S) (h : VBox w b v) : VBox wx b v := ⟨hb.cell hn h.1, hb.cell hn h.2.1, hb.cell hn h.2.2.1, hb.cell hn h.2.2.2.1, hb.cell hn h.2.2.2.2⟩

theorem Row.bt {S : List Nat} {w wx : World} {g len : Nat} {ps : List PD} (hb : Bt S w wx) (hn : g ∉ S) (h : Row w g len ps) : Row wx g len ps := by
  obtain ⟨ar, h1, h2, h3⟩ := h
  exact ⟨ar, (hb.block g (Array.getElem?_eq_some_iff.1 h1).1 hn).trans h1, h2, h3⟩
theorem Row.lt {w : World} {g len : Nat} {ps : List PD} (h : Row w g len ps) : g < w.heap.size := by
  obtain ⟨ar, h1, h2, h3⟩ := h
  exact (Array.getElem?_eq_some_iff.1 h1).1

/-- The two boxes ahead: the law's table and its key. -/
def Ahead (w : World) (B : Nat) (sv : Value) (tu : Int) (q : VD) : Prop := w.cell? ⟨B, 0, none⟩ = some sv ∧ w.cell? ⟨B, 1, none⟩ = some (.int .i64 tu) ∧ VBox w (B + 1) q
theorem Ahead.later {w wx : World} {B : Nat} {sv : Value} {tu : Int} {q : VD} (hb : Below w.heap.size w wx) (h : Ahead w B sv tu q) : Ahead wx B sv tu q := ⟨cell_later hb h.1, cell_later hb h.2.1, VBox.later hb h.2.2⟩
theorem Ahead.bt {S : List Nat} {w wx : World} {B : Nat} {sv : Value} {tu : Int} {q : VD} (hb : Bt S w wx) (h1 : B ∉ S) (h2 : B + 1 ∉ S) (h : Ahead w B sv tu q) : Ahead wx B sv tu q := ⟨hb.cell h1 h.1, hb.cell h1 h.2.1, VBox.bt hb h2 h.2.2⟩
theorem Ahead.lt {w : World} {B : Nat} {sv : Value} {tu : Int} {q : VD} (h : Ahead w B sv tu q) : B + 1 < w.heap.size := World.block_lt_of_cell? _ _ h.2.2.1

theorem gets_any (b off len cap : Nat) (ps : List PD) (turns : Int) (q : VD) (w : World) (hl : ps.length = len) (hp : PAt w b off ps) (hlen : len ≤ 1048576) (hok : ∀ p ∈ ps, p.ok) (hq : q.ok) :
    Calls Try.prog 43 #[.agg #[.slice (some ⟨b, off, none⟩) len cap, .int .i64 turns], q.v] w fun e w' => e = .returned (getV ps turns q).v ∧ Below w.heap.size w w' := by
  by_cases ht : tokV ps turns = true
  · have e : getV ps turns q = getL ps q := by unfold getV; rw [if_pos ht]
    rw [e]; exact gets_ok b off len cap ps turns q w hl hp hlen hok hq ht
  · have e : getV ps turns q = vd0 := by unfold getV; rw [if_neg ht]
    rw [e]; exact gets_bad b off len cap ps turns q w hl hp hlen hok (by simpa using ht)
theorem iget_any (b off len cap : Nat) (ps : List PD) (turns : Int) (q : VD) (w : World) (hl : ps.length = len) (hp : PAt w b off ps) (hlen : len ≤ 1048576) (hok : ∀ p ∈ ps, p.ok) (hq : q.ok) :
    Calls Try.prog 44 #[.agg #[.slice (some ⟨b, off, none⟩) len cap, .int .i64 turns], q.v] w fun e w' => e = .returned (getV ps turns q).v ∧ Below w.heap.size w w' := by
  by_cases ht : tokV ps turns = true
  · have e : getV ps turns q = getL ps q := by unfold getV; rw [if_pos ht]
    rw [e]; exact iget_ok b off len cap ps turns q w hl hp hlen hok hq ht
  · have e : getV ps turns q = vd0 := by unfold getV; rw [if_neg ht]
    rw [e]; exact iget_bad b off len cap ps turns q w hl hp hlen hok hq (by simpa using ht)

set_option maxRecDepth 20000 in
set_option maxHeartbeats 4000000 in
theorem walk (sv : Value) (tu : Int) (ps : List PD) (k n : Int) (f : Nat) (s : ByteArray) (r : Int) (w : World) (ta : TArg w sv ps) (po : ∀ p ∈ ps, p.ok) (pl : ps.length ≤ maxLen) (wt : (Lit.int .i64 tu).wf = true) (hv : VW k n f s r) :
    Calls Try.prog 12 #[.agg #[sv, .int .i64 tu], VV k n f s r] w fun e w' => e = .returned (.bool true) ∧ Below w.heap.size w w' := by
  obtain ⟨_, _, wf, hs, _⟩ := hv
  have TA : Hid (TArg w sv ps) := ta
  have hqo : VD.ok ⟨k, n, f, s, r⟩ := ⟨flt_lt wf, hs⟩
  have HQ : Hid (VD.ok ⟨k, n, f, s, r⟩) := hqo
  have HO : Hid (∀ p ∈ ps, p.ok) := po
  obtain ⟨gv, hgv⟩ : ∃ gv, gv = getV ps tu ⟨k, n, f, s, r⟩ := ⟨_, rfl⟩
  have HG : Hid (gv = getV ps tu ⟨k, n, f, s, r⟩) := hgv
  clear ta hqo po hgv wf
  go_enter Try.func12, Try.ntmps12
  go_wp2_with fail
  refine (szt_arg sv ps tu 1048576 _ (TA.out.later (bw2 _ _ _)) HO.out pl (by omega) (by omega)).mono ?_
  rintro e w1 ⟨⟨l, rfl, hr⟩, hx⟩
  have hA : Ahead w1 w.heap.size sv tu ⟨k, n, f, s, r⟩ := by
    obtain ⟨b0, b1⟩ := heap2 w (.cells #[sv, .int .i64 tu] 50) (.cells #[.int .i64 k, .int .i64 n, .float .f64 f, .string s, .int .i64 r] 24)
    have b0' := (hx.block w.heap.size (by simp; omega)).trans b0
    have b1' := (hx.block (w.heap.size + 1) (by simp)).trans b1
    exact ⟨by rw [blk_cell b0']; rfl, by rw [blk_cell b0']; rfl, by rw [blk_cell b1']; rfl, by rw [blk_cell b1']; rfl, by rw [blk_cell b1']; rfl, by rw [blk_cell b1']; rfl, by rw [blk_cell b1']; rfl⟩
  have hb := (bw2 _ _ _).trans (hx.mono (by simp; omega))
  clear hx
  obtain ⟨t0, t1, k0, k1, k2, k3, k4⟩ := id hA
  rcases hr with rfl | ⟨hr0, hr1⟩
  · go_wp2_with fail
    go_ret
    exact ⟨rfl, hb⟩
  have hlen : ps.length ≤ 1048576 := by omega
  by_cases hc : l - s.size < 0
  · go_wp2_with fail
    refine (sz_no _ _ _ _ _ _ _ hs hr0 (by omega) hc).mono ?_
    rintro e w2 ⟨rfl, hx⟩
    replace hb := hb.trans (hx.mono hb.size)
    go_wp2_with fail
    go_ret
    exact ⟨rfl, hb⟩
  go_wp2_with fail
  refine (sz_ok _ _ _ _ _ _ _ hs (by omega) (by omega)).mono ?_
  rintro e wa ⟨rfl, hx⟩
  replace hb := hb.trans (hx.mono hb.size)
  replace hA := Ahead.later hx hA
  clear hx t0 t1 k0 k1 k2 k3 k4
  have HA : Hid (Ahead wa w.heap.size sv tu ⟨k, n, f, s, r⟩) := hA
  obtain ⟨t0, t1, k0, k1, k2, k3, k4⟩ := hA
  have hz := HA.out.lt
  have hz' : w.heap.size < wa.heap.size := by omega
  have hs0 := hb.size
  go_upto_region 8 with fail
  go_cut [6] from 19 to 23 (fun s6 wx => ∃ k6, s6 = .pointer (some ⟨k6, 0, none⟩) ∧ Hid (VBox wx k6 gv) ∧ Hid (Ahead wx w.heap.size sv tu ⟨k, n, f, s, r⟩) ∧ Hid (Below w.heap.size w wx))
  case first =>
    go_region_with (first
      | (go_at_call 37; refine (tot_arg sv ps tu _ (by exact TA.out.later (by first | exact hb.drew | exact (bwN hb _).drew)) hlen).mono ?_; rintro e w2 ⟨⟨g1, hg1, rfl, hR1⟩, hx⟩; (first | (have hxa : Below (wa.alloc (VO 0 0 0 ⟨#[]⟩ 0)).heap.size (wa.alloc (VO 0 0 0 ⟨#[]⟩ 0)) w2 := und1 hx; obtain ⟨hx1, sx⟩ := box0v hxa; clear hxa) | have hx1 : Below wa.heap.size wa w2 := und1 hx); have HR1 : Hid (Row w2 g1 ps.length ps) := hR1; replace k0 := cell_later hx1 k0; replace k1 := cell_later hx1 k1; replace k2 := cell_later hx1 k2; replace k3 := cell_later hx1 k3; replace k4 := cell_later hx1 k4; have hz2 := World.block_lt_of_cell? _ _ k0; clear hx hR1 hg1)
      | (go_at_call 17; refine (to_any _ _ _ _ _ _).mono ?_; rintro e w3 ⟨rfl, hx⟩; (first | (have hxa : Below (w2.alloc (VO 0 0 0 ⟨#[]⟩ 0)).heap.size (w2.alloc (VO 0 0 0 ⟨#[]⟩ 0)) w3 := hx; obtain ⟨hx2, sx⟩ := box0v hxa; clear hxa) | (have hx2 : Below w2.heap.size w2 w3 := hx; (try (have sx' := Slot5.later hx2 sx; clear sx; have sx := sx'; clear sx')))); have HR2 : Hid (Row w3 g1 ps.length ps) := HR1.out.later hx2; have hx12 := hx1.trans (hx2.mono hx1.size); clear hx)
      | (go_at_call 43; refine (gets_any g1 0 ps.length ps.length ps tu ⟨k, n, f, s, r⟩ _ rfl (by exact (HR2.out.later (by first | exact Below.refl _ _ | exact bw1 _ _)).at rfl) hlen HO.out HQ.out).mono ?_; rw [← HG.out]; rintro e w4 ⟨rfl, hx⟩; (first | (have hxa : Below (w3.alloc (VO 0 0 0 ⟨#[]⟩ 0)).heap.size (w3.alloc (VO 0 0 0 ⟨#[]⟩ 0)) w4 := hx; obtain ⟨hx3, sx⟩ := box0v hxa; clear hxa) | (have hx3 : Below w3.heap.size w3 w4 := hx; (try (have sx' := Slot5.later hx3 sx; clear sx; have sx := sx'; clear sx')))); have hx13 := hx12.trans (hx3.mono hx12.size); (try (have hsx := Slot5.cells sx; obtain ⟨y0, y1, y2, y3, y4, m0, m1, m2, m3, m4, z6, hz6⟩ := hsx)); clear hx))
    all_goals
      have hs1 := hx1.size
      have hs2 := hx12.size
      have hs3 := hx13.size
      clear k0 k1 k2 k3 k4
      go_wp2_with fail
      go_meet
      first
        | (have sx0 := sx; exact ⟨_, rfl, vbox_set sx0 _, Ahead.bt (bt_set5 _ _ _ _ _ _ _) (by simp; omega) (by simp; omega) (Ahead.later hx13 HA.out), below5 (hb.trans (hx13.mono hb.size)) (by omega) _ _ _ _ _⟩)
        | (refine ⟨_, rfl, ⟨?_, ?_, ?_, ?_, ?_⟩, Ahead.later (bwN hx13 _) HA.out, bwN (hb.trans (hx13.mono hb.size)) _⟩ <;> simp [go_sem])
  case rest =>
    obtain ⟨k6, rfl, HV6, HA6, HB6⟩ := hcut
    clear HA t0 t1 k0 k1 k2 k3 k4 hz hz' hs0 hb
    have hb := HB6.out
    obtain ⟨t0, t1, k0, k1, k2, k3, k4⟩ := HA6.out
    go_wp2_with fail
    refine (tot_arg sv ps tu _ (TA.out.later hb) hlen).mono ?_
    rintro e w5 ⟨⟨g2, hg2, rfl, hR2⟩, hx⟩
    have hy := hx.trans ((bw1 w5 (.cells #[.slice (some ⟨g2, 0, none⟩) ps.length ps.length, .int .i64 tu] 55)).mono hx.size)
    obtain ⟨hbx, x0, x1⟩ := boxt w5 (.slice (some ⟨g2, 0, none⟩) ps.length ps.length) (.int .i64 tu) 55
    obtain ⟨wb, hwb⟩ : ∃ wb, wb = w5.alloc (.cells #[.slice (some ⟨g2, 0, none⟩) ps.length ps.length, .int .i64 tu] 55) := ⟨_, rfl⟩
    have HRb : Hid (Row wb g2 ps.length ps) := by rw [hwb]; exact hR2.later hbx
    rw [← hwb] at x0 x1 hy
    have HVb : Hid (VBox wb k6 gv) := HV6.out.later hy
    have HAb : Hid (Ahead wb w.heap.size sv tu ⟨k, n, f, s, r⟩) := HA6.out.later hy
    have hbb := hb.trans (hy.mono hb.size)
    have HXb : Hid (wb.cell? ⟨w5.heap.size, 0, none⟩ = some (.slice (some ⟨g2, 0, none⟩) ps.length ps.length) ∧ wb.cell? ⟨w5.heap.size, 1, none⟩ = some (.int .i64 tu)) := ⟨x0, x1⟩
    have hzx := World.block_lt_of_cell? _ _ x0
    have hzg := Row.lt HRb.out
    have hz6 := World.block_lt_of_cell? _ _ HVb.out.1
    have hzA := HAb.out.lt
    have hzA' : w.heap.size < wb.heap.size := by omega
    clear hx hR2 hg2 hbx hy HV6 HA6 HB6 t0 t1 k0 k1 k2 k3 k4
    obtain ⟨t0, t1, k0, k1, k2, k3, k4⟩ := HAb.out
    go_upto_region 10 with fail
    rw [← hwb]; clear hwb
    go_cut [8] from 26 to 29 (fun s8 wx => ∃ k8, s8 = .pointer (some ⟨k8, 0, none⟩) ∧ Hid (VBox wx k8 gv) ∧ Hid (VBox wx k6 gv) ∧ Hid (Ahead wx w.heap.size sv tu ⟨k, n, f, s, r⟩) ∧ Hid (wx.cell? ⟨w5.heap.size, 0, none⟩ = some (.slice (some ⟨g2, 0, none⟩) ps.length ps.length) ∧ wx.cell? ⟨w5.heap.size, 1, none⟩ = some (.int .i64 tu)) ∧ Hid (Row wx g2 ps.length ps) ∧ Hid (Below w.heap.size w wx))
    case first =>
      go_region_with (first
        | (go_at_call 17; refine (to_any _ _ _ _ _ _).mono ?_; rintro e w6 ⟨rfl, hx⟩; (first | (have hxa : Below (wb.alloc (VO 0 0 0 ⟨#[]⟩ 0)).heap.size (wb.alloc (VO 0 0 0 ⟨#[]⟩ 0)) w6 := und1 hx; obtain ⟨hx1, sx⟩ := box0v hxa; clear hxa) | have hx1 : Below wb.heap.size wb w6 := und1 hx); have HR6 : Hid (Row w6 g2 ps.length ps) := HRb.out.later hx1; replace x0 := cell_later hx1 x0; replace x1 := cell_later hx1 x1; have hz2 := World.block_lt_of_cell? _ _ x0; clear hx)
        | (go_at_call 44; refine (iget_any g2 0 ps.length ps.length ps tu ⟨k, n, f, s, r⟩ _ rfl (by exact (HR6.out.later (by first | exact Below.refl _ _ | exact bw1 _ _)).at rfl) hlen HO.out HQ.out).mono ?_; rw [← HG.out]; rintro e w7 ⟨rfl, hx⟩; (first | (have hxa : Below (w6.alloc (VO 0 0 0 ⟨#[]⟩ 0)).heap.size (w6.alloc (VO 0 0 0 ⟨#[]⟩ 0)) w7 := hx; obtain ⟨hx3, sx⟩ := box0v hxa; clear hxa) | (have hx3 : Below w6.heap.size w6 w7 := hx; (try (have sx' := Slot5.later hx3 sx; clear sx; have sx := sx'; clear sx')))); have hx13 := hx1.trans (hx3.mono hx1.size); (try (have hsx := Slot5.cells sx; obtain ⟨y0, y1, y2, y3, y4, m0, m1, m2, m3, m4, z6, hz6⟩ := hsx)); clear hx))
      all_goals
        have hs1 := hx1.size
        have hs3 := hx13.size
        clear k0 k1 k2 k3 k4 x0 x1 t0 t1
        go_wp2_with fail
        go_meet
        first
          | (have sx0 := sx; exact ⟨_, rfl, vbox_set sx0 _, VBox.bt (bt_set5 _ _ _ _ _ _ _) (by simp; omega) (VBox.later hx13 HVb.out), Ahead.bt (bt_set5 _ _ _ _ _ _ _) (by simp; omega) (by simp; omega) (Ahead.later hx13 HAb.out), ⟨(bt_set5 _ _ _ _ _ _ _).cell (by simp; omega) (cell_later hx13 HXb.out.1), (bt_set5 _ _ _ _ _ _ _).cell (by simp; omega) (cell_later hx13 HXb.out.2)⟩, Row.bt (bt_set5 _ _ _ _ _ _ _) (by simp; omega) (HRb.out.later hx13), below5 (hbb.trans (hx13.mono hbb.size)) (by have := hbb.size; omega) _ _ _ _ _⟩)
          | (refine ⟨_, rfl, ⟨?_, ?_, ?_, ?_, ?_⟩, VBox.later (bwN hx13 _) HVb.out, Ahead.later (bwN hx13 _) HAb.out, ⟨cell_later (bwN hx13 _) HXb.out.1, cell_later (bwN hx13 _) HXb.out.2⟩, HRb.out.later (bwN hx13 _), bwN (hbb.trans (hx13.mono hbb.size)) _⟩ <;> simp [go_sem])
    case rest =>
      obtain ⟨k8, rfl, HV8, HVc, HAc, HXc, HRc, HBc⟩ := hcut
      clear HAb HXb HRb HVb t0 t1 k0 k1 k2 k3 k4 x0 x1 hb hbb hzx hzg hz6 hzA hzA'
      have hb := HBc.out
      obtain ⟨p0, p1, p2, p3, p4⟩ := HV8.out
      obtain ⟨c0, c1, c2, c3, c4⟩ := HVc.out
      go_wp2_with fail
      refine (eqv gv.k gv.n gv.f gv.s gv.r _).mono ?_
      rintro e w8 ⟨rfl, hx⟩
      replace hb := hb.trans (hx.mono hb.size)
      obtain ⟨t0, t1, _, _, _, _, _⟩ := HAc.out
      replace t0 := cell_later hx t0; replace t1 := cell_later hx t1
      obtain ⟨x0, x1⟩ := HXc.out
      replace x0 := cell_later hx x0; replace x1 := cell_later hx x1
      have HR2 : Hid (Row w8 g2 ps.length ps) := HRc.out.later hx
      clear hx p0 p1 p2 p3 p4 c0 c1 c2 c3 c4 HV8 HVc HAc HXc HRc HBc
      go_wp2_with fail
      go_region_with (first | (go_at_call 37; refine (tot_arg sv ps tu _ (TA.out.later (hb.trans ((Below.refl _ _).drew))) hlen).mono ?_; rintro e w9 ⟨⟨g3, hg3, rfl, hR3⟩, hx⟩; replace hx := und1 hx; have HR3 : Hid (Row w9 g3 ps.length ps) := hR3; replace HR2 : Hid (Row w9 g2 ps.length ps) := HR2.out.later hx; replace x0 := cell_later hx x0; replace x1 := cell_later hx x1; replace hb := hb.trans (hx.mono hb.size); clear hx hR3) | (go_at_call 39; refine (eqt_some g2 0 ps.length g3 0 ps.length ps.length tu ps _ rfl (HR2.out.at rfl) (HR3.out.at rfl) hlen).mono ?_; rintro e w10 ⟨rfl, hx⟩; replace hb := hb.trans (hx.mono hb.size); clear hx))
      all_goals
        go_wp2_with fail
        go_ret
        exact ⟨rfl, hb⟩

/-! The row's step. -/
theorem own : ownKnob Try.prog.godebug = none := by kernel_rfl
theorem laidOut : laidOutB Try.prog = true := by kernel_rfl
set_option maxRecDepth 100000 in
theorem lifted (os : Os) (started : os.Started) (H : Type) (enc : TypeId × Value → H) :
    ReturnsInHanded {} Try.checked os 12 .any (Rows.fnExactGetSpec.pre6 enc Try.prog Try.f12 Rows.fnExactGetRow.domain false) (Rows.fnExactGetSpec.post enc Try.prog Try.f12 false true false false) := by
  refine returnsInHanded_of_change (C := Try.checked) own started (by kernel_rfl) Try.func12
    (ChangeSpec.witness6 (enc := enc) (C := Try.checked) false ⟨#[], #[.agg #[.slice none 0 0, .int .i64 0], VV 0 0 0 ByteArray.empty 0], []⟩ 8 (by kernel_rfl) (by kernel_rfl) (by kernel_rfl) (by kernel_rfl)) ?_
  intro W base args ds gs before hval0 hW hcnd _
  have hval : ∀ (j : Nat) t v, Try.f12.params[j]? = some t → args[j]? = some v → Value.okWide Try.prog W .any base t v := hval0
  have hW' := hW
  obtain ⟨p, q, hA0, hV, rfl, hfz, hnd⟩ := hW
  have hA : DataW.TrodAll enc Try.prog W 0 (fun _ => true) true Try.f12.params.toList args.toList ds p := hA0
  rw [Try.params12] at hA hval
  obtain ⟨v0, vs0, d0, ds0, p0, q0, hargs, rfl, rfl, h0, r0⟩ := trodAll_cons hA
  obtain ⟨v1, vs1, d1, ds1, p1, q1, rfl, rfl, rfl, h1, r1⟩ := trodAll_cons r0
  obtain ⟨rfl, rfl, rfl⟩ := trodAll_nil r1
  obtain rfl : args = #[v0, v1] := by cases args; simp_all
  obtain ⟨rfl, rfl⟩ := trodVars_none hV
  have k0 := h0
  have lt0 : ∀ x ∈ p0, x.block < W.heap.size := by obtain ⟨m, hm⟩ := k0; exact DataW.trod_lt m _ _ _ hm
  obtain ⟨sv_0, tu_0, ps_0, rfl, ta0, po0, pl0, wt0⟩ := open_table (hval 0 50 v0 rfl rfl) h0
  clear h0
  have k1 := h1
  have lt1 : ∀ x ∈ p1, x.block < W.heap.size := by obtain ⟨m, hm⟩ := k1; exact DataW.trod_lt m _ _ _ hm
  obtain ⟨x0, x1, x2, x3, x4, y0, y1, y2, y3, y4, m, rfl, hd, hp, t0, t1, t2, t3, t4⟩ := open_agg5 Try.underlying24 (by kernel_rfl) (by kernel_rfl) (by kernel_rfl) (by kernel_rfl) (by kernel_rfl) (by kernel_rfl) (by kernel_rfl) (by kernel_rfl) (by kernel_rfl) (by kernel_rfl) (by kernel_rfl) (hval 1 24 v1 rfl rfl) h1
  obtain ⟨k_1, e0, _, wk1⟩ := DataW.trod_int Try.underlying3 t0
  obtain ⟨n_1, e1, _, wn1⟩ := DataW.trod_int Try.underlying2 t1
  obtain ⟨f_1, e2, _, wf1⟩ := trod_float Try.underlying22 t2
  obtain ⟨s_1, e3, _, ws1⟩ := DataW.trod_string Try.underlying9 t3
  obtain ⟨r_1, e4, _, wr1⟩ := DataW.trod_int Try.underlying3 t4
  simp only [List.cons.injEq, and_true] at e0 e1 e3 e4
  subst e0 e1 e2 e3 e4
  clear t0 t1 t2 t3 t4 hd hp h1
  clear hA0 hval0 hval
  refine (walk sv_0 tu_0 ps_0 k_1 n_1 f_1 s_1 r_1 W ta0 po0 pl0 wt0 ⟨wk1, wn1, wf1, ws1, wr1⟩).mono fun e W' ⟨he, bel⟩ => ?_
  subst he
  exact ⟨_, rfl, _, _, _, [], _, [], hW', trodAll_mk1 (shut_bool Try.underlying4 _), (trodAll_cons_mk (Below.trod laidOut (by kernel_rfl) (of_decide_eq_true (by kernel_rfl)) k0 bel lt0) (trodAll_cons_mk (Below.trod laidOut (by kernel_rfl) (of_decide_eq_true (by kernel_rfl)) k1 bel lt1) trodAll_mk0)), rfl, bel.frame _, fun h => by cases h⟩

theorem over : Rows.fnExactGetRow.holds Try.pinned (OpenSpec.ofChange Rows.fnExactGetSpec) :=
  OpenClaim.holds_of_wide 12 Try.f12 rfl rfl rfl rfl rfl rfl rfl ⟨rfl, rfl, rfl, rfl, rfl⟩ rfl rfl rfl rfl rfl (by kernel_rfl) Try.func12 (by kernel_rfl)
    (of_decide_eq_true (by kernel_rfl)) (by unfold Func.isWrapper; first | (rw [if_pos (by decide +kernel)]; kernel_rfl) | (rw [if_neg (by decide +kernel)]; exact ⟨rfl, rfl⟩))
    (fun os started H enc _ => lifted os started H enc)

end Go.Proofs.Ytkipmogmejfmcaa.lawGet
namespace Go.Proofs.Ytkipmogmejfmcaa
theorem get_holds : Rows.FnExactGetSaid := lawGet.over
#print axioms get_holds
end Go.Proofs.Ytkipmogmejfmcaa
