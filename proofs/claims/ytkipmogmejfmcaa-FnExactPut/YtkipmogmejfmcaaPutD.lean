import Derived.Test.YtkipmogmejfmcaaPutB
import Derived.Test.YtkipmogmejfmcaaBGetO
import Derived.Test.YtkipmogmejfmcaaPutC
/-
  OWN WORK. Put of the program, at a table that is not valid.
-/
namespace Go.Proofs.Ytkipmogmejfmcaa
open Go.RowKit
attribute [local go_sem] run_store_float
set_option linter.unusedVariables false

/-- The boxes of the value and of the answer. -/
def PA (w : World) (B : Nat) (v : VD) : Prop := VBox w (B + 2) v ∧ w.heap[B + 3]? = some (.cells #[.slice none 0 0, .int .i64 0] 55)
theorem PA.later {w wx : World} {B : Nat} {v : VD} (hb : Below w.heap.size w wx) (h : PA w B v) : PA wx B v := ⟨VBox.later hb h.1, (hb.block _ (Array.getElem?_eq_some_iff.1 h.2).1).trans h.2⟩
theorem PA.bt {S : List Nat} {w wx : World} {B : Nat} {v : VD} (hb : Bt S w wx) (h1 : B + 2 ∉ S) (h2 : B + 3 ∉ S) (h : PA w B v) : PA wx B v :=
  ⟨⟨hb.cell h1 h.1.1, hb.cell h1 h.1.2.1, hb.cell h1 h.1.2.2.1, hb.cell h1 h.1.2.2.2.1, hb.cell h1 h.1.2.2.2.2⟩, (hb.block _ (Array.getElem?_eq_some_iff.1 h.2).1 h2).trans h.2⟩
theorem PA.lt {w : World} {B : Nat} {v : VD} (h : PA w B v) : B + 3 < w.heap.size := (Array.getElem?_eq_some_iff.1 h.2).1

theorem box4 (w : World) (b off len cap : Nat) (turns : Int) (q v : VD) : ∃ w1, w1 = (((w.alloc (.cells #[.slice (some ⟨b, off, none⟩) len cap, .int .i64 turns] 55)).alloc (VO q.k q.n q.f q.s q.r)).alloc (VO v.k v.n v.f v.s v.r)).alloc (.cells #[.slice none 0 0, .int .i64 0] 55) ∧ Below w.heap.size w w1 ∧
    w1.cell? ⟨w.heap.size, 0, none⟩ = some (.slice (some ⟨b, off, none⟩) len cap) ∧ w1.cell? ⟨w.heap.size, 1, none⟩ = some (.int .i64 turns) ∧ VBox w1 (w.heap.size + 1) q ∧ PA w1 w.heap.size v := by
  obtain ⟨b0, b1, b2, b3⟩ := heap4 w (.cells #[.slice (some ⟨b, off, none⟩) len cap, .int .i64 turns] 55) (VO q.k q.n q.f q.s q.r) (VO v.k v.n v.f v.s v.r) (.cells #[.slice none 0 0, .int .i64 0] 55)
  refine ⟨_, rfl, bwN (bw3 _ _ _ _) _, ?_, ?_, ⟨?_, ?_, ?_, ?_, ?_⟩, ⟨?_, ?_, ?_, ?_, ?_⟩, b3⟩
  · rw [blk_cell b0]; rfl
  · rw [blk_cell b0]; rfl
  · rw [blk_cell b1]; rfl
  · rw [blk_cell b1]; rfl
  · rw [blk_cell b1]; rfl
  · rw [blk_cell b1]; rfl
  · rw [blk_cell b1]; rfl
  · rw [blk_cell b2]; rfl
  · rw [blk_cell b2]; rfl
  · rw [blk_cell b2]; rfl
  · rw [blk_cell b2]; rfl
  · rw [blk_cell b2]; rfl

set_option maxRecDepth 20000 in
set_option maxHeartbeats 4000000 in
theorem iput_bad (b off len cap : Nat) (ps : List PD) (turns : Int) (q v : VD) (w : World) (hl : ps.length = len) (hp : PAt w b off ps) (hlen : len ≤ 1048576) (hok : ∀ p ∈ ps, p.ok) (hq : q.ok) (ht : tokV ps turns = false) :
    Calls Try.prog 49 #[.agg #[.slice (some ⟨b, off, none⟩) len cap, .int .i64 turns], q.v, v.v] w fun e w' => e = .returned (.agg #[.slice none 0 0, .int .i64 0]) ∧ Below w.heap.size w w' := by
  obtain ⟨qc, hqc⟩ : ∃ qc, qc = (keyD q).1 := ⟨_, rfl⟩
  obtain ⟨q', hq'⟩ : ∃ q', q' = (keyD q).2 := ⟨_, rfl⟩
  have hU := keyV_D q
  rw [← hqc, ← hq'] at hU
  have HU : Hid (keyV q.k q.n q.f q.s q.r = RV qc q'.k q'.n q'.f q'.s q'.r) := hU
  clear hqc hq' hU
  obtain ⟨w1, hw, hb, t0, t1, hQ, pa⟩ := box4 w b off len cap turns q v
  have HP : Hid (PAt w1 b off ps) := hp.later hb
  have HPA : Hid (PA w1 w.heap.size v) := pa
  clear hp
  obtain ⟨d0, d1, d2, d3, d4⟩ := hQ
  have hz1 := World.block_lt_of_cell? _ _ t0
  have hz2 := World.block_lt_of_cell? _ _ d0
  have hz3 := pa.lt
  clear pa
  go_enter Try.func49, Try.ntmps49
  go_upto_region 1 with fail
  rw [← hw]; clear hw
  go_cut [7, 8] from 9 to 12 (fun s5 s6 wx => s5 = .pointer none ∧ ∃ k6, s6 = .pointer (some ⟨k6, 0, none⟩) ∧ Hid (RBox wx k6 qc q') ∧ Hid (PA wx w.heap.size v) ∧ Hid (Below w.heap.size w wx))
  case first =>
    go_region_with (first
      | (go_at_call 79; refine (book_no b off len cap ps turns _ hl (by exact HP.out.later (by first | exact (Below.refl _ _).drew | exact (bw1 _ _).drew)) hlen hok ht).mono ?_; rintro e w2 ⟨rfl, hx⟩; (first | (have hxa : Below (w1.alloc (.cells #[.int .i64 0, .int .i64 0, .int .i64 0, .float .f64 0, .string ⟨#[]⟩, .int .i64 0] 43)).heap.size (w1.alloc (.cells #[.int .i64 0, .int .i64 0, .int .i64 0, .float .f64 0, .string ⟨#[]⟩, .int .i64 0] 43)) w2 := und1 hx; obtain ⟨hx1, sx⟩ := box0s hxa; clear hxa) | have hx1 : Below w1.heap.size w1 w2 := und1 hx); replace d0 := cell_later hx1 d0; replace d1 := cell_later hx1 d1; replace d2 := cell_later hx1 d2; replace d3 := cell_later hx1 d3; replace d4 := cell_later hx1 d4; have hz4 := World.block_lt_of_cell? _ _ d0; clear hx)
      | (go_at_call 31; refine (ik_any _ _ _ _ _ _ hq.1).mono ?_; rw [HU.out]; rintro e w3 ⟨rfl, hx⟩; (first | (have hxa : Below (w2.alloc (.cells #[.int .i64 0, .int .i64 0, .int .i64 0, .float .f64 0, .string ⟨#[]⟩, .int .i64 0] 43)).heap.size (w2.alloc (.cells #[.int .i64 0, .int .i64 0, .int .i64 0, .float .f64 0, .string ⟨#[]⟩, .int .i64 0] 43)) w3 := hx; obtain ⟨hx3, sx⟩ := box0s hxa; clear hxa) | have hx3 : Below w2.heap.size w2 w3 := hx); (try (have sx' := Slot.later hx3 sx; clear sx; have sx := sx'; clear sx')); have hx2 := hx1.trans (hx3.mono hx1.size); (try (have hsx := Slot.cells sx; obtain ⟨y0, y1, y2, y3, y4, y5, m0, m1, m2, m3, m4, m5, z6, hz6⟩ := hsx)); clear hx))
    all_goals
      have hs1 := hb.size
      have hs2 := hx1.size
      have hs3 := hx2.size
      clear d0 d1 d2 d3 d4
      go_wp2_with fail
      go_meet
      first
        | exact ⟨rfl, _, rfl, rbox_set sx _ _, PA.bt (bt_set6 _ _ _ _ _ _ _ _) (by simp; omega) (by simp; omega) (PA.later hx2 HPA.out), below6 (hb.trans (hx2.mono hb.size)) (by omega) _ _ _ _ _ _⟩
        | (refine ⟨rfl, _, rfl, ⟨?_, ?_, ?_, ?_, ?_, ?_⟩, PA.later (bwN hx2 _) HPA.out, bwN (hb.trans (hx2.mono hb.size)) _⟩ <;> simp [go_sem])
  case rest =>
    obtain ⟨rfl, k6, rfl, HR, HS, HBl⟩ := hcut
    clear d0 d1 d2 d3 d4 t0 t1 hz1 hz2 hz3
    have b3 := HS.out.2
    have r0 := blk_cell b3 0; have r1 := blk_cell b3 1; have zr := blk_frozen b3
    simp only [List.getElem?_toArray, List.getElem?_cons_zero, List.getElem?_cons_succ] at r0 r1
    clear b3
    go_wp2_with fail
    exact bodyPost_ret (v := .agg #[.slice none 0 0, .int .i64 0]) (by simp [results, Try.results49, go_sem, r0, r1]) rfl ⟨rfl, (HBl.out.setCell (p := ⟨w.heap.size + 3, 0, none⟩) (by simp) _).setCell (p := ⟨w.heap.size + 3, 1, none⟩) (by simp) _⟩
end Go.Proofs.Ytkipmogmejfmcaa

/-
  OWN WORK. Put of the program, whole.
-/
namespace Go.Proofs.Ytkipmogmejfmcaa
open Go.RowKit
attribute [local go_sem] run_store_float
set_option linter.unusedVariables false

/-- What Put leaves: a row of its own, or nil. -/
def IPut (w : World) (ps : List PD) (turns : Int) (k v : VD) (e : Ending) (w' : World) : Prop := ∃ sv, e = .returned (.agg #[sv, .int .i64 (ansT ps turns k v)]) ∧ TRow w' w.heap.size sv (ansL ps turns k v) ∧ Below w.heap.size w w'

set_option maxRecDepth 20000 in
set_option maxHeartbeats 4000000 in
theorem iput_ok (b off len cap : Nat) (ps : List PD) (turns : Int) (q v : VD) (w : World) (hl : ps.length = len) (hp : PAt w b off ps) (hlen : len ≤ 1048576) (hok : ∀ p ∈ ps, p.ok) (hq : q.ok) (ht : tokV ps turns = true) :
    Calls Try.prog 49 #[.agg #[.slice (some ⟨b, off, none⟩) len cap, .int .i64 turns], q.v, v.v] w fun e w' => IPut w ps turns q v e w' := by
  obtain ⟨qc, hqc⟩ : ∃ qc, qc = (keyD q).1 := ⟨_, rfl⟩
  obtain ⟨q', hq'⟩ : ∃ q', q' = (keyD q).2 := ⟨_, rfl⟩
  have hU := keyV_D q
  rw [← hqc, ← hq'] at hU
  have HQC : Hid (qc = (keyD q).1) := hqc
  have HQ' : Hid (q' = (keyD q).2) := hq'
  have HTk : Hid (tokV ps turns = true) := ht
  have HO : Hid (∀ p ∈ ps, p.ok) := hok
  have HU : Hid (keyV q.k q.n q.f q.s q.r = RV qc q'.k q'.n q'.f q'.s q'.r) := hU
  clear hqc hq' hU hok
  obtain ⟨w1, hw, hb, t0, t1, hQ, pa⟩ := box4 w b off len cap turns q v
  have HP : Hid (PAt w1 b off ps) := hp.later hb
  have HPA : Hid (PA w1 w.heap.size v) := pa
  clear hp
  obtain ⟨d0, d1, d2, d3, d4⟩ := hQ
  have hz1 := World.block_lt_of_cell? _ _ t0
  have hz2 := World.block_lt_of_cell? _ _ d0
  have hz3 := pa.lt
  clear pa
  go_enter Try.func49, Try.ntmps49
  go_upto_region 1 with fail
  rw [← hw]; clear hw
  go_cut [7, 8] from 9 to 12 (fun s5 s6 wx => (∃ bk, s5 = .pointer (some ⟨bk, 0, none⟩) ∧ Hid (∃ lb mb, Book wx bk lb mb (ps.length + 1) ps turns ∧ (w.heap.size + 4 ≤ bk ∧ w.heap.size + 4 ≤ lb ∧ w.heap.size + 4 ≤ mb))) ∧ ∃ k6, s6 = .pointer (some ⟨k6, 0, none⟩) ∧ Hid (RBox wx k6 qc q') ∧ Hid (PA wx w.heap.size v) ∧ Hid (Below w.heap.size w wx))
  case first =>
    go_region_with (first
      | (go_at_call 79; refine (book_yes b off len cap ps turns _ hl (by exact HP.out.later (by first | exact (Below.refl _ _).drew | exact (bw1 _ _).drew)) hlen HO.out HTk.out).mono ?_; rintro e w2 ⟨bk, lb, mb, rfl, hgs, hBk, hx⟩; (try simp at hgs); obtain ⟨hg1, hg2, hg3⟩ := hgs; obtain ⟨hl1, hl2, hl3⟩ := book_lt hBk; have HBK : Hid (Book w2 bk lb mb (ps.length + 1) ps turns) := hBk; clear hBk; (first | (have hxa : Below (w1.alloc (.cells #[.int .i64 0, .int .i64 0, .int .i64 0, .float .f64 0, .string ⟨#[]⟩, .int .i64 0] 43)).heap.size (w1.alloc (.cells #[.int .i64 0, .int .i64 0, .int .i64 0, .float .f64 0, .string ⟨#[]⟩, .int .i64 0] 43)) w2 := und1 hx; obtain ⟨hx1, sx⟩ := box0s hxa; clear hxa) | have hx1 : Below w1.heap.size w1 w2 := und1 hx); replace d0 := cell_later hx1 d0; replace d1 := cell_later hx1 d1; replace d2 := cell_later hx1 d2; replace d3 := cell_later hx1 d3; replace d4 := cell_later hx1 d4; have hz4 := World.block_lt_of_cell? _ _ d0; clear hx)
      | (go_at_call 31; refine (ik_any _ _ _ _ _ _ hq.1).mono ?_; rw [HU.out]; rintro e w3 ⟨rfl, hx⟩; (first | (have hxa : Below (w2.alloc (.cells #[.int .i64 0, .int .i64 0, .int .i64 0, .float .f64 0, .string ⟨#[]⟩, .int .i64 0] 43)).heap.size (w2.alloc (.cells #[.int .i64 0, .int .i64 0, .int .i64 0, .float .f64 0, .string ⟨#[]⟩, .int .i64 0] 43)) w3 := hx; obtain ⟨hx3, sx⟩ := box0s hxa; clear hxa) | have hx3 : Below w2.heap.size w2 w3 := hx); (try (have sx' := Slot.later hx3 sx; clear sx; have sx := sx'; clear sx')); have hx2 := hx1.trans (hx3.mono hx1.size); (try (have hsx := Slot.cells sx; obtain ⟨y0, y1, y2, y3, y4, y5, m0, m1, m2, m3, m4, m5, z6, hz6⟩ := hsx)); clear hx))
    all_goals
      have hs1 := hb.size
      have hs2 := hx1.size
      have hs3 := hx2.size
      clear d0 d1 d2 d3 d4
      go_wp2_with fail
      go_meet
      first
        | (have sx0 := sx; exact ⟨⟨bk, rfl, lb, mb, Book.bt (bt_set6 _ _ _ _ _ _ _ _) (by simp; omega) (by simp; omega) (by simp; omega) (HBK.out.later hx3), by omega, by omega, by omega⟩, _, rfl, rbox_set sx _ _, PA.bt (bt_set6 _ _ _ _ _ _ _ _) (by simp; omega) (by simp; omega) (PA.later hx2 HPA.out), below6 (hb.trans (hx2.mono hb.size)) (by omega) _ _ _ _ _ _⟩)
        | (refine ⟨⟨bk, rfl, lb, mb, (HBK.out.later hx3).later (bw1 _ _), by omega, by omega, by omega⟩, _, rfl, ⟨?_, ?_, ?_, ?_, ?_, ?_⟩, PA.later (bwN hx2 _) HPA.out, bwN (hb.trans (hx2.mono hb.size)) _⟩ <;> simp [go_sem])
  case rest =>
    obtain ⟨⟨bk, rfl, HBK⟩, k6, rfl, HR, HS, HBl⟩ := hcut
    clear d0 d1 d2 d3 d4 t0 t1 hz1 hz2 hz3
    obtain ⟨c0, c1, c2, c3, c4, c5⟩ := HR.out
    have hbad : ∀ (wx : World), putGood ps turns q v = false → Below w.heap.size w wx → ∀ {e : Ending}, e = .returned (.agg #[.slice none 0 0, .int .i64 0]) → IPut w ps turns q v e ((wx.setCell ⟨w.heap.size + 3, 0, none⟩ (.slice none 0 0)).setCell ⟨w.heap.size + 3, 1, none⟩ (.int .i64 0)) := by
      intro wx hg hbx e he
      have e1 : ansL ps turns q v = [] := by unfold ansL; rw [if_neg (by simp [hg])]
      have e2 : ansT ps turns q v = 0 := by unfold ansT; rw [if_neg (by simp [hg])]
      exact ⟨.slice none 0 0, by rw [e2]; exact he, by rw [e1]; exact .inl ⟨rfl, rfl⟩, (hbx.setCell (p := ⟨w.heap.size + 3, 0, none⟩) (by simp) _).setCell (p := ⟨w.heap.size + 3, 1, none⟩) (by simp) _⟩
    have HBad : Hid (∀ (wx : World), putGood ps turns q v = false → Below w.heap.size w wx → ∀ {e : Ending}, e = .returned (.agg #[.slice none 0 0, .int .i64 0]) → IPut w ps turns q v e ((wx.setCell ⟨w.heap.size + 3, 0, none⟩ (.slice none 0 0)).setCell ⟨w.heap.size + 3, 1, none⟩ (.int .i64 0))) := hbad
    clear hbad
    obtain ⟨hvb, b3⟩ := HS.out
    obtain ⟨v0, v1, v2, v3, v4⟩ := hvb
    have HB3 : Hid (wc.heap[w.heap.size + 3]? = some (.cells #[.slice none 0 0, .int .i64 0] 55)) := b3
    clear b3
    by_cases hc : qc = 0
    · have H0 : Hid ((keyD q).1 = 0) := HQC.out.symm.trans hc
      subst hc
      go_wp2_with fail
      refine (iok_any _ _ _ _ _ _).mono ?_
      rintro e w4 ⟨rfl, hx⟩
      replace c0 := cell_later hx c0; replace c1 := cell_later hx c1; replace c2 := cell_later hx c2; replace c3 := cell_later hx c3; replace c4 := cell_later hx c4; replace c5 := cell_later hx c5
      replace v0 := cell_later hx v0; replace v1 := cell_later hx v1; replace v2 := cell_later hx v2; replace v3 := cell_later hx v3; replace v4 := cell_later hx v4
      have hr4 := (hx.block _ (Array.getElem?_eq_some_iff.1 HB3.out).1).trans HB3.out
      have HR4 : Hid (w4.heap[w.heap.size + 3]? = some (.cells #[.slice none 0 0, .int .i64 0] 55)) := hr4
      have HB4 : Hid (Below w.heap.size w w4) := HBl.out.trans (hx.mono HBl.out.size)
      have HBK4 : Hid (∃ lb mb, Book w4 bk lb mb (ps.length + 1) ps turns ∧ (w.heap.size + 4 ≤ bk ∧ w.heap.size + 4 ≤ lb ∧ w.heap.size + 4 ≤ mb)) := by
        obtain ⟨lb, mb, h1, h2⟩ := HBK.out
        exact ⟨lb, mb, h1.later hx, h2⟩
      clear hx hr4
      by_cases hvv : vok v.k v.n v.f v.s v.r = true
      · have hg : putGood ps turns q v = true := by unfold putGood; rw [HTk.out, hvv, H0.out]; rfl
        have HGd : Hid (ansL ps turns q v = putPs ps turns q' v ∧ ansT ps turns q v = putT ps turns q' v) := by
          show ansL ps turns q v = putPs ps turns q' v ∧ ansT ps turns q v = putT ps turns q' v
          unfold ansL ansT; rw [if_pos hg, if_pos hg, HQ'.out]; exact ⟨rfl, rfl⟩
        clear hg
        obtain ⟨lb, mb, hBk, hge1, hge2, hge3⟩ := HBK4.out
        go_wp2_with fail
        refine (bput_any bk lb mb ps turns q' v _ HTk.out hBk (fun d hd => ⟨(HO.out d hd).1.1, tokV_kk HTk.out d hd⟩) (by rw [HQ'.out]; exact key_f hq) (by rw [HQ'.out]; exact key_kk H0.out)).mono ?_
        rintro e w5 ⟨rfl, ⟨hhd, ar, har, hsz, hCo⟩, hT⟩
        obtain ⟨qs, hqs⟩ : ∃ qs, qs = putPs ps turns q' v := ⟨_, rfl⟩
        obtain ⟨tt, htt⟩ : ∃ tt, tt = putT ps turns q' v := ⟨_, rfl⟩
        rw [← hqs] at hhd hCo
        rw [← htt] at hhd
        have HAns : Hid (ansL ps turns q v = qs ∧ ansT ps turns q v = tt) := ⟨HGd.out.1.trans hqs.symm, HGd.out.2.trans htt.symm⟩
        have hlq : qs.length ≤ ps.length + 1 := by
          rw [hqs]; unfold putPs
          have := outL_len q' v ps
          split
          · simp; omega
          · omega
        have hz4 := (Array.getElem?_eq_some_iff.1 HR4.out).1
        have hr5 := (hT.block (w.heap.size + 3) hz4 (by simp; omega)).trans HR4.out
        have g0 := blk_cell hhd 0; have g1 := blk_cell hhd 2
        have r0 := blk_cell hr5 0; have r1 := blk_cell hr5 1; have zr := blk_frozen hr5
        simp only [List.getElem?_toArray, List.getElem?_cons_zero, List.getElem?_cons_succ] at g0 g1 r0 r1
        have HB5 : Hid (Below w.heap.size w w5) := HB4.out.trans (hT.below HB4.out.size (by simp; omega))
        have HAr : Hid (w5.heap[lb]? = some (.cells ar 60)) := har
        have HCo : Hid (Cont qs ar qs.length) := hCo
        have HSz : Hid (ar.size = (ps.length + 1) * 11) := hsz
        clear hhd har hsz hCo hT hr5 hqs htt hBk v0 v1 v2 v3 v4 c0 c1 c2 c3 c4 c5
        go_wp2_with fail
        go_region
        all_goals
          go_wp2_with fail
          refine bodyPost_ret (v := .agg #[.slice (some ⟨lb, 0, none⟩) qs.length (ps.length + 1), .int .i64 tt]) (by simp [results, Try.results49, go_sem, r0, r1, hl]) rfl ⟨.slice (some ⟨lb, 0, none⟩) qs.length (ps.length + 1), by rw [HAns.out.2], ?_, ((HB5.out.setCell (p := ⟨w.heap.size + 3, 0, none⟩) (by simp) _).setCell (p := ⟨w.heap.size + 3, 1, none⟩) (by simp) _).drew⟩
          rw [HAns.out.1]
          refine .inr ⟨lb, ps.length + 1, ar, rfl, by omega, ?_, by rw [HSz.out]; omega, HCo.out⟩
          exact (((((Bt.refl [w.heap.size + 3] w5).setCell (p := ⟨w.heap.size + 3, 0, none⟩) (by simp) _).setCell (p := ⟨w.heap.size + 3, 1, none⟩) (by simp) _).drew).block lb (Array.getElem?_eq_some_iff.1 HAr.out).1 (by simp; omega)).trans HAr.out
      · replace hvv : vok v.k v.n v.f v.s v.r = false := by simpa using hvv
        have hg : putGood ps turns q v = false := by unfold putGood; rw [hvv]; simp
        have r0 := blk_cell HR4.out 0; have r1 := blk_cell HR4.out 1; have zr := blk_frozen HR4.out
        simp only [List.getElem?_toArray, List.getElem?_cons_zero, List.getElem?_cons_succ] at r0 r1
        go_wp2_with fail
        exact bodyPost_ret (v := .agg #[.slice none 0 0, .int .i64 0]) (by simp [results, Try.results49, go_sem, r0, r1]) rfl (HBad.out w4 hg HB4.out rfl)
    · have hc' : (qc != 0) = true := by simpa using hc
      have hg : putGood ps turns q v = false := by
        unfold putGood
        rw [show ((keyD q).1 == 0) = false by rw [← HQC.out]; simpa using hc]
        simp
      have r0 := blk_cell HB3.out 0; have r1 := blk_cell HB3.out 1; have zr := blk_frozen HB3.out
      simp only [List.getElem?_toArray, List.getElem?_cons_zero, List.getElem?_cons_succ] at r0 r1
      go_wp2_with fail
      exact bodyPost_ret (v := .agg #[.slice none 0 0, .int .i64 0]) (by simp [results, Try.results49, go_sem, r0, r1]) rfl (HBad.out wc hg HBl.out rfl)

theorem iput_any (b off len cap : Nat) (ps : List PD) (turns : Int) (q v : VD) (w : World) (hl : ps.length = len) (hp : PAt w b off ps) (hlen : len ≤ 1048576) (hok : ∀ p ∈ ps, p.ok) (hq : q.ok) :
    Calls Try.prog 49 #[.agg #[.slice (some ⟨b, off, none⟩) len cap, .int .i64 turns], q.v, v.v] w fun e w' => IPut w ps turns q v e w' := by
  by_cases ht : tokV ps turns = true
  · exact iput_ok b off len cap ps turns q v w hl hp hlen hok hq ht
  · replace ht : tokV ps turns = false := by simpa using ht
    refine (iput_bad b off len cap ps turns q v w hl hp hlen hok hq ht).mono ?_
    rintro e w1 ⟨rfl, hx⟩
    have hg : putGood ps turns q v = false := by unfold putGood; rw [ht]; simp
    have e1 : ansL ps turns q v = [] := by unfold ansL; rw [if_neg (by simp [hg])]
    have e2 : ansT ps turns q v = 0 := by unfold ansT; rw [if_neg (by simp [hg])]
    exact ⟨.slice none 0 0, by rw [e2], by rw [e1]; exact .inl ⟨rfl, rfl⟩, hx⟩
/-- .. and of the specification's. -/
theorem sput_all (b off len cap : Nat) (ps : List PD) (turns : Int) (k v : VD) (w : World) (hl : ps.length = len) (hp : PAt w b off ps) (hlen : len ≤ 1048576) (hok : ∀ p ∈ ps, p.ok) (hk : k.ok) (hv : v.ok) :
    Calls Try.prog 48 #[.agg #[.slice (some ⟨b, off, none⟩) len cap, .int .i64 turns], k.v, v.v] w fun e w' => IPut w ps turns k v e w' := by
  refine (sput_any b off len cap ps turns k v w hl hp hlen hok hk hv).mono ?_
  rintro e w1 ⟨sv, rfl, h1, h2⟩
  exact ⟨sv, rfl, TRow.of_owns h1, h2⟩
theorem ansL_len (ps : List PD) (turns : Int) (k v : VD) : (ansL ps turns k v).length ≤ ps.length + 1 := by
  unfold ansL
  split
  · unfold putPs
    have := outL_len (keyD k).2 v ps
    split
    · simp; omega
    · omega
  · simp
end Go.Proofs.Ytkipmogmejfmcaa
