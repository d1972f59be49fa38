import Derived.Test.YtkipmogmejfmcaaPutA
import Derived.Test.YtkipmogmejfmcaaPutB
/-
  OWN WORK. Put of the program: the book is written into, where no pair goes.
-/
namespace Go.Proofs.Ytkipmogmejfmcaa
open Go.RowKit
attribute [local go_sem] run_store_float
set_option linter.unusedVariables false

/-- A book's list and turns. -/
structure BRow (w : World) (bk lb mb cap : Nat) (qs : List PD) (turns : Int) : Prop where
  head : w.heap[bk]? = some (.cells #[.slice (some ⟨lb, 0, none⟩) qs.length cap, .map (some mb), .int .i64 turns] 120)
  row : ∃ ar, w.heap[lb]? = some (.cells ar 60) ∧ ar.size = cap * 11 ∧ Cont qs ar qs.length

/-- Five cells of a row are written: the value of one pair. -/
def put5 (ar : Array Value) (o : Nat) (v : VD) : Array Value := ((((ar.setIfInBounds (o + 5) (.int .i64 v.k)).setIfInBounds (o + 6) (.int .i64 v.n)).setIfInBounds (o + 7) (.float .f64 v.f)).setIfInBounds (o + 8) (.string v.s)).setIfInBounds (o + 9) (.int .i64 v.r)
theorem put5_size (ar : Array Value) (o : Nat) (v : VD) : (put5 ar o v).size = ar.size := by simp [put5]
theorem put5_off (ar : Array Value) (o : Nat) (v : VD) (k : Nat) (h : k < o + 5 ∨ o + 9 < k) : (put5 ar o v)[k]? = ar[k]? := by
  unfold put5
  simp only [Array.getElem?_setIfInBounds]
  repeat rw [if_neg (by omega)]
theorem put5_at (ar : Array Value) (o : Nat) (v : VD) (h : o + 11 ≤ ar.size) (j : Nat) (hj : j < 5) : (put5 ar o v)[o + 5 + j]? = v.cells[j]? := by
  unfold put5
  match j, hj with
  | 0, _ => simp [Array.getElem?_setIfInBounds, VD.cells]; omega
  | 1, _ => simp [Array.getElem?_setIfInBounds, VD.cells]; omega
  | 2, _ => simp [Array.getElem?_setIfInBounds, VD.cells]; omega
  | 3, _ => simp [Array.getElem?_setIfInBounds, VD.cells]; omega
  | 4, _ => simp [Array.getElem?_setIfInBounds, VD.cells]; omega
theorem cont_put5 {ps : List PD} {ar : Array Value} {m cap : Nat} {p : PD} (v : VD) (hp : ps[m]? = some p) (hs : ar.size = cap * 11) (hc : ps.length ≤ cap) (h : Cont ps ar ps.length) : Cont (ps.set m (PD.mk p.key v p.turn)) (put5 ar (m * 11) v) (ps.set m (PD.mk p.key v p.turn)).length := by
  have hm := (List.getElem?_eq_some_iff.1 hp).1
  intro i q hi hq j u hu
  rw [List.length_set] at hi
  have hj : j < 11 := by
    have := (List.getElem?_eq_some_iff.1 hu).1
    rw [cells_len] at this; exact this
  rw [List.getElem?_set] at hq
  by_cases he : m = i
  · subst he
    rw [if_pos rfl, if_pos hm] at hq
    cases hq
    by_cases h5 : 5 ≤ j ∧ j < 10
    · obtain ⟨d, rfl⟩ : ∃ d, j = 5 + d := ⟨j - 5, by omega⟩
      rw [← Nat.add_assoc, put5_at ar _ v (by omega) d (by omega)]
      have e : (PD.mk p.key v p.turn).cells[5 + d]? = v.cells[d]? := by
        unfold PD.cells
        rw [List.getElem?_append_right (by simp [VD.cells])]
        simp only [VD.cells, List.length_cons, List.length_nil, Nat.add_sub_cancel_left]
        rw [List.getElem?_append_left (by simp; omega)]
      rw [← e]; exact hu
    · rw [put5_off ar _ v _ (by omega)]
      refine h m p hm hp j u ?_
      rw [← hu]
      have hj' : j = 0 ∨ j = 1 ∨ j = 2 ∨ j = 3 ∨ j = 4 ∨ j = 10 := by omega
      rcases hj' with rfl | rfl | rfl | rfl | rfl | rfl <;> rfl
  · rw [if_neg he] at hq
    rw [put5_off ar _ v _ (by omega)]
    exact h i q hi hq j u hu

set_option maxRecDepth 20000 in
set_option maxHeartbeats 2000000 in
theorem bput_skip (bk lb mb cap : Nat) (ps : List PD) (turns : Int) (key v : VD) (w : World) (hlen : ps.length ≤ 500) (hB : Book w bk lb mb cap ps turns) (h0' : eidx key ps 0 < 0) (hN : (v.k = 0) ∨ (v.k ≠ 0 ∧ ¬ ps.length < 500) ∨ (v.k ≠ 0 ∧ ps.length < 500 ∧ ¬ turns < 1000000000000)) :
    Calls Try.prog 90 #[.pointer (some ⟨bk, 0, none⟩), key.v, v.v] w fun e w' => e = .returned (.tuple #[]) ∧ Book w' bk lb mb cap ps turns ∧ Bt [bk, lb, mb] w w' := by
  have k0 : decide (0 ≤ eidx key ps 0) = false := by simpa using h0'
  have HB : Hid (Book w bk lb mb cap ps turns) := hB
  clear hB
  go_enter Try.func90, Try.ntmps90
  go_wp2_with fail
  obtain ⟨b0, b1⟩ := heap2 w (VO key.k key.n key.f key.s key.r) (VO v.k v.n v.f v.s v.r)
  obtain ⟨w1, hw⟩ : ∃ w1, w1 = (w.alloc (VO key.k key.n key.f key.s key.r)).alloc (VO v.k v.n v.f v.s v.r) := ⟨_, rfl⟩
  rw [← hw] at b0 b1
  have hb : Below w.heap.size w w1 := by rw [hw]; exact bw2 _ _ _
  rw [← hw]; clear hw
  have d0 : w1.cell? ⟨w.heap.size, 0, none⟩ = some (.int .i64 key.k) := by rw [blk_cell b0]; rfl
  have d1 : w1.cell? ⟨w.heap.size, 1, none⟩ = some (.int .i64 key.n) := by rw [blk_cell b0]; rfl
  have d2 : w1.cell? ⟨w.heap.size, 2, none⟩ = some (.float .f64 key.f) := by rw [blk_cell b0]; rfl
  have d3 : w1.cell? ⟨w.heap.size, 3, none⟩ = some (.string key.s) := by rw [blk_cell b0]; rfl
  have d4 : w1.cell? ⟨w.heap.size, 4, none⟩ = some (.int .i64 key.r) := by rw [blk_cell b0]; rfl
  have e0 := lat_cell d0; have e1 := lat_cell d1; have e2 := lat_cell d2; have e3 := lat_cell d3; have e4 := lat_cell d4
  have HL : ∀ x : Lat w1, Hid (MapAt x.wd mb ps) := fun x => HB.out.map.later (hb.trans (x.below.mono hb.size))
  have HC1 : ∀ x : Lat w1, Hid (x.wd.cell? ⟨bk, 1, none⟩ = some (.map (some mb))) := fun x => lat_cell (cell_later hb (by rw [blk_cell HB.out.head]; rfl)) x
  haveI := lat_some w1
  refine wp_region_lat (by kernel_rfl) (by kernel_rfl) ?_
  repeat (go_big_quiet_step ((go_at_call 108; refine lat_calls (find_any key bk mb ps _ (HL _).out (HC1 _).out))))
  refine wpQuiet_nil ?_
  rintro _ ⟨nq, rfl⟩
  obtain ⟨w2, hw2⟩ : ∃ w2, w2 = nq.wd := ⟨_, rfl⟩
  have hb12 : Below w1.heap.size w1 w2 := by rw [hw2]; exact nq.below
  rw [← hw2]
  clear hw2 e0 e1 e2 e3 e4 HL HC1
  have hlt0 := (Array.getElem?_eq_some_iff.1 b0).1
  have hlt1 := (Array.getElem?_eq_some_iff.1 b1).1
  have b0' := (hb12.block _ hlt0).trans b0
  have b1' := (hb12.block _ hlt1).trans b1
  have hb2 := hb.trans (hb12.mono hb.size)
  have HB2 : Hid (Book w2 bk lb mb cap ps turns) := HB.out.later hb2
  obtain ⟨hl1, hl2, hl3⟩ := book_lt HB.out
  have hsz2 := hb12.size
  clear d0 d1 d2 d3 d4 b0 b1 hb12 nq
  have d0 := blk_cell b0' 0; have d1 := blk_cell b0' 1; have d2 := blk_cell b0' 2; have d3 := blk_cell b0' 3; have d4 := blk_cell b0' 4
  have u0 := blk_cell b1' 0; have u1 := blk_cell b1' 1; have u2 := blk_cell b1' 2; have u3 := blk_cell b1' 3; have u4 := blk_cell b1' 4
  have h0 := blk_cell HB2.out.head 0; have h1 := blk_cell HB2.out.head 1; have h2 := blk_cell HB2.out.head 2
  have zh := blk_frozen HB2.out.head
  simp only [List.getElem?_toArray, List.getElem?_cons_zero, List.getElem?_cons_succ] at d0 d1 d2 d3 d4 u0 u1 u2 u3 u4 h0 h1 h2
  have HE : Hid (Book w2 bk lb mb cap ps turns ∧ Bt [bk, lb, mb] w w2) := ⟨HB2.out, Bt.of_below hb2⟩
  rcases hN with hk | ⟨hk, hn⟩ | ⟨hk, hn, htn⟩
  · have hk2 : (v.k != 0) = false := by simpa using hk
    go_wp2_with fail
    go_end0
    exact ⟨rfl, HE.out⟩
  · have hk2 : (v.k != 0) = true := by simpa using hk
    have hn2 : decide ((ps.length : Int) < 500) = false := by simp; omega
    go_wp2_with fail
    go_end0
    exact ⟨rfl, HE.out⟩
  · have hk2 : (v.k != 0) = true := by simpa using hk
    have hn2 : decide ((ps.length : Int) < 500) = true := by simp; omega
    have ht2 : decide (turns < 1000000000000) = false := by simpa using htn
    go_wp2_with fail
    go_end0
    exact ⟨rfl, HE.out⟩

set_option maxRecDepth 20000 in
set_option maxHeartbeats 2000000 in
theorem bput_rep (bk lb mb cap : Nat) (ps : List PD) (turns : Int) (key v : VD) (w : World) (hlen : ps.length ≤ 500) (hB : Book w bk lb mb cap ps turns) (m : Nat) (p : PD) (hm : m < ps.length) (hpm : ps[m]? = some p) (h0' : eidx key ps 0 = (m : Int)) (hk : v.k ≠ 0) (hcap : ps.length ≤ cap) :
    Calls Try.prog 90 #[.pointer (some ⟨bk, 0, none⟩), key.v, v.v] w fun e w' => e = .returned (.tuple #[]) ∧ BRow w' bk lb mb cap (ps.set m (PD.mk p.key v p.turn)) turns ∧ Bt [bk, lb, mb] w w' := by
  have HM : Hid (ps[m]? = some p) := hpm
  have hk2 : (v.k == 0) = false := by simpa using hk
  clear hpm
  have HB : Hid (Book w bk lb mb cap ps turns) := hB
  clear hB
  go_enter Try.func90, Try.ntmps90
  go_wp2_with fail
  obtain ⟨b0, b1⟩ := heap2 w (VO key.k key.n key.f key.s key.r) (VO v.k v.n v.f v.s v.r)
  obtain ⟨w1, hw⟩ : ∃ w1, w1 = (w.alloc (VO key.k key.n key.f key.s key.r)).alloc (VO v.k v.n v.f v.s v.r) := ⟨_, rfl⟩
  rw [← hw] at b0 b1
  have hb : Below w.heap.size w w1 := by rw [hw]; exact bw2 _ _ _
  rw [← hw]; clear hw
  have d0 : w1.cell? ⟨w.heap.size, 0, none⟩ = some (.int .i64 key.k) := by rw [blk_cell b0]; rfl
  have d1 : w1.cell? ⟨w.heap.size, 1, none⟩ = some (.int .i64 key.n) := by rw [blk_cell b0]; rfl
  have d2 : w1.cell? ⟨w.heap.size, 2, none⟩ = some (.float .f64 key.f) := by rw [blk_cell b0]; rfl
  have d3 : w1.cell? ⟨w.heap.size, 3, none⟩ = some (.string key.s) := by rw [blk_cell b0]; rfl
  have d4 : w1.cell? ⟨w.heap.size, 4, none⟩ = some (.int .i64 key.r) := by rw [blk_cell b0]; rfl
  have e0 := lat_cell d0; have e1 := lat_cell d1; have e2 := lat_cell d2; have e3 := lat_cell d3; have e4 := lat_cell d4
  have HL : ∀ x : Lat w1, Hid (MapAt x.wd mb ps) := fun x => HB.out.map.later (hb.trans (x.below.mono hb.size))
  have HC1 : ∀ x : Lat w1, Hid (x.wd.cell? ⟨bk, 1, none⟩ = some (.map (some mb))) := fun x => lat_cell (cell_later hb (by rw [blk_cell HB.out.head]; rfl)) x
  haveI := lat_some w1
  refine wp_region_lat (by kernel_rfl) (by kernel_rfl) ?_
  repeat (go_big_quiet_step ((go_at_call 108; refine lat_calls (find_any key bk mb ps _ (HL _).out (HC1 _).out))))
  refine wpQuiet_nil ?_
  rintro _ ⟨nq, rfl⟩
  obtain ⟨w2, hw2⟩ : ∃ w2, w2 = nq.wd := ⟨_, rfl⟩
  have hb12 : Below w1.heap.size w1 w2 := by rw [hw2]; exact nq.below
  rw [← hw2]
  clear hw2 e0 e1 e2 e3 e4 HL HC1
  have hlt0 := (Array.getElem?_eq_some_iff.1 b0).1
  have hlt1 := (Array.getElem?_eq_some_iff.1 b1).1
  have b0' := (hb12.block _ hlt0).trans b0
  have b1' := (hb12.block _ hlt1).trans b1
  have hb2 := hb.trans (hb12.mono hb.size)
  have HB2 : Hid (Book w2 bk lb mb cap ps turns) := HB.out.later hb2
  obtain ⟨hl1, hl2, hl3⟩ := book_lt HB.out
  have hsz2 := hb12.size
  clear d0 d1 d2 d3 d4 b0 b1 hb12 nq
  have d0 := blk_cell b0' 0; have d1 := blk_cell b0' 1; have d2 := blk_cell b0' 2; have d3 := blk_cell b0' 3; have d4 := blk_cell b0' 4
  have u0 := blk_cell b1' 0; have u1 := blk_cell b1' 1; have u2 := blk_cell b1' 2; have u3 := blk_cell b1' 3; have u4 := blk_cell b1' 4
  have h0 := blk_cell HB2.out.head 0; have h1 := blk_cell HB2.out.head 1; have h2 := blk_cell HB2.out.head 2
  have zh := blk_frozen HB2.out.head
  simp only [List.getElem?_toArray, List.getElem?_cons_zero, List.getElem?_cons_succ] at d0 d1 d2 d3 d4 u0 u1 u2 u3 u4 h0 h1 h2
  obtain ⟨ar, ha, hsz, hC⟩ := HB2.out.row
  have hin : m * 11 + 10 < ar.size := by omega
  obtain ⟨y5, x5⟩ : ∃ y, w2.cell? ⟨lb, m * 11 + 5, none⟩ = some y := ⟨ar[m * 11 + 5]'(by omega), by rw [blk_cell ha]; simp⟩
  obtain ⟨y6, x6⟩ : ∃ y, w2.cell? ⟨lb, m * 11 + 6, none⟩ = some y := ⟨ar[m * 11 + 6]'(by omega), by rw [blk_cell ha]; simp⟩
  obtain ⟨y7, x7⟩ : ∃ y, w2.cell? ⟨lb, m * 11 + 7, none⟩ = some y := ⟨ar[m * 11 + 7]'(by omega), by rw [blk_cell ha]; simp⟩
  obtain ⟨y8, x8⟩ : ∃ y, w2.cell? ⟨lb, m * 11 + 8, none⟩ = some y := ⟨ar[m * 11 + 8]'(by omega), by rw [blk_cell ha]; simp⟩
  obtain ⟨y9, x9⟩ : ∃ y, w2.cell? ⟨lb, m * 11 + 9, none⟩ = some y := ⟨ar[m * 11 + 9]'(by omega), by rw [blk_cell ha]; simp⟩
  have za := blk_frozen ha
  have HAr : Hid (w2.heap[lb]? = some (.cells ar 60)) := ha
  have HCo : Hid (Cont ps ar ps.length) := hC
  clear ha hC
  go_wp2_with fail
  go_region
  all_goals
    go_wp2_with fail
    go_end0
    have hz := HB2.out.ne1
    have hs5 := blk_set (blk_set (blk_set (blk_set (blk_set HAr.out (m * 11 + 5) (.int .i64 v.k)) (m * 11 + 6) (.int .i64 v.n)) (m * 11 + 7) (.float .f64 v.f)) (m * 11 + 8) (.string v.s)) (m * 11 + 9) (.int .i64 v.r)
    have hB5 : Bt [lb] w2 (((((w2.setCell ⟨lb, m * 11 + 5, none⟩ (.int .i64 v.k)).setCell ⟨lb, m * 11 + 6, none⟩ (.int .i64 v.n)).setCell ⟨lb, m * 11 + 7, none⟩ (.float .f64 v.f)).setCell ⟨lb, m * 11 + 8, none⟩ (.string v.s)).setCell ⟨lb, m * 11 + 9, none⟩ (.int .i64 v.r)).drew := ((((((Bt.refl [lb] w2).setCell (p := ⟨lb, m * 11 + 5, none⟩) (by simp) _).setCell (p := ⟨lb, m * 11 + 6, none⟩) (by simp) _).setCell (p := ⟨lb, m * 11 + 7, none⟩) (by simp) _).setCell (p := ⟨lb, m * 11 + 8, none⟩) (by simp) _).setCell (p := ⟨lb, m * 11 + 9, none⟩) (by simp) _).drew
    refine ⟨rfl, ⟨?_, put5 ar (m * 11) v, hs5, ?_, ?_⟩, ?_⟩
    · rw [List.length_set]
      exact (hB5.block bk (Array.getElem?_eq_some_iff.1 HB2.out.head).1 (by simpa using hz)).trans HB2.out.head
    · rw [put5_size]; exact hsz
    · exact cont_put5 v HM.out hsz hcap HCo.out
    · exact (Bt.of_below hb2).trans (hB5.mono (by simp))

end Go.Proofs.Ytkipmogmejfmcaa

/-
  OWN WORK. A pair goes from the book.
-/
namespace Go.Proofs.Ytkipmogmejfmcaa
open Go.RowKit
attribute [local go_sem] run_store_float
set_option linter.unusedVariables false

theorem del_at (lb m cap : Nat) (x : Int) (ps : List PD) (ar : Array Value) (w : World) (hx : x = ((m + 1 : Nat) : Int)) (hr : w.heap[lb]? = some (.cells ar 60)) (hs : ar.size = cap * 11) (hm : m < ps.length) (hc : ps.length < cap) (hcap : cap ≤ 1048577) (hC : Cont ps ar ps.length) :
    Calls Try.prog 123 #[.slice (some ⟨lb, 0, none⟩) ps.length cap, .int .i64 m, .int .i64 x] w fun e w' => e = .returned (.slice (some ⟨lb, 0, none⟩) (ps.length - 1) cap) ∧ (∃ ar', w'.heap[lb]? = some (.cells ar' 60) ∧ ar'.size = cap * 11 ∧ Cont (ps.eraseIdx m) ar' (ps.eraseIdx m).length) ∧ Bt [lb] w w' := by
  subst hx
  exact del_any lb m (m + 1) cap ps ar w hr hs hm rfl hc hcap hC

/-- The cells of a pair in a row. -/
theorem row_cells {w : World} {lb m : Nat} {ps : List PD} {ar : Array Value} {p : PD} {t : TypeId} (ha : w.heap[lb]? = some (.cells ar t)) (hC : Cont ps ar ps.length) (hp : ps[m]? = some p) :
    w.cell? ⟨lb, m * 11, none⟩ = some (.int .i64 p.key.k) ∧ w.cell? ⟨lb, m * 11 + 1, none⟩ = some (.int .i64 p.key.n) ∧ w.cell? ⟨lb, m * 11 + 2, none⟩ = some (.float .f64 p.key.f) ∧ w.cell? ⟨lb, m * 11 + 3, none⟩ = some (.string p.key.s) ∧ w.cell? ⟨lb, m * 11 + 4, none⟩ = some (.int .i64 p.key.r) ∧ w.cell? ⟨lb, m * 11 + 5, none⟩ = some (.int .i64 p.val.k) ∧ w.cell? ⟨lb, m * 11 + 6, none⟩ = some (.int .i64 p.val.n) ∧ w.cell? ⟨lb, m * 11 + 7, none⟩ = some (.float .f64 p.val.f) ∧ w.cell? ⟨lb, m * 11 + 8, none⟩ = some (.string p.val.s) ∧ w.cell? ⟨lb, m * 11 + 9, none⟩ = some (.int .i64 p.val.r) ∧ w.cell? ⟨lb, m * 11 + 10, none⟩ = some (.int .i64 p.turn) := by
  have hm := (List.getElem?_eq_some_iff.1 hp).1
  refine ⟨?_, ?_, ?_, ?_, ?_, ?_, ?_, ?_, ?_, ?_, ?_⟩ <;> rw [blk_cell ha]
  all_goals first | exact hC m p hm hp 0 _ rfl | exact hC m p hm hp 1 _ rfl | exact hC m p hm hp 2 _ rfl | exact hC m p hm hp 3 _ rfl | exact hC m p hm hp 4 _ rfl | exact hC m p hm hp 5 _ rfl | exact hC m p hm hp 6 _ rfl | exact hC m p hm hp 7 _ rfl | exact hC m p hm hp 8 _ rfl | exact hC m p hm hp 9 _ rfl | exact hC m p hm hp 10 _ rfl

set_option maxRecDepth 20000 in
set_option maxHeartbeats 4000000 in
theorem rem_any (bk lb mb cap m : Nat) (ps : List PD) (p : PD) (turns : Int) (w : World) (hB : Book w bk lb mb cap ps turns) (hlen : ps.length ≤ 500) (hm : m < ps.length) (hpm : ps[m]? = some p) (hc : ps.length < cap) (hcap : cap ≤ 1048577) :
    Calls Try.prog 114 #[.pointer (some ⟨bk, 0, none⟩), .int .i64 (m : Int)] w fun e w' => e = .returned (.tuple #[]) ∧ BRow w' bk lb mb cap (ps.eraseIdx m) turns ∧ Bt [bk, lb, mb] w w' := by
  obtain ⟨n, hn⟩ : ∃ n, n = ps.length := ⟨_, rfl⟩
  obtain ⟨l1, l2, l3⟩ := book_lt hB
  have n1 := hB.ne1; have n2 := hB.ne2; have n3 := hB.ne3
  have HW : Hid (MapW w mb) := hB.map.weak
  have HHd : Hid (w.heap[bk]? = some (.cells #[.slice (some ⟨lb, 0, none⟩) n cap, .map (some mb), .int .i64 turns] 120)) := by rw [hn]; exact hB.head
  obtain ⟨ar, ha, hs, hC⟩ := hB.row
  have HA : Hid (w.heap[lb]? = some (.cells ar 60)) := ha
  have HC : Hid (Cont ps ar ps.length) := hC
  have HN : Hid (n = ps.length) := hn
  obtain ⟨d0, d1, d2, d3, d4, d5, d6, d7, d8, d9, d10⟩ := row_cells ha hC hpm
  have c0 : w.cell? ⟨bk, 0, none⟩ = some (.slice (some ⟨lb, 0, none⟩) n cap) := by rw [blk_cell HHd.out]; rfl
  have c1 : w.cell? ⟨bk, 1, none⟩ = some (.map (some mb)) := by rw [blk_cell HHd.out]; rfl
  have mk := m_key
  rw [← hn] at hlen hm hc
  clear hB ha hC hn hpm
  go_enter Try.func114, Try.ntmps114
  go_upto_region 0 with fail
  go_cut [] from 5 to 17 (fun wx => Hid (MapW wx mb) ∧ Hid (Bt [mb] w wx))
  case first =>
    go_region_with (go_at_call 149; refine (ikey_any p _).mono ?_; rintro e w2 ⟨rfl, hx⟩; replace hx := und1 hx; replace c0 := cell_later hx c0; replace c1 := cell_later hx c1; obtain ⟨w3, hu, hM, hT⟩ := run_del_w p.key w2 mb 0 27 (HW.out.later hx); have HM : Hid (MapW w3 mb) := hM; have HT : Hid (Bt [mb] w w3) := (Bt.of_below hx).trans hT; clear hM hT hx)
    all_goals (go_wp2_with fail; go_meet; exact ⟨HM, HT⟩)
  case rest =>
    obtain ⟨HM, HT⟩ := hcut
    clear mk d0 d1 d2 d3 d4 d5 d6 d7 d8 d9 d10 c1
    replace c0 := HT.out.cell (p := ⟨bk, 0, none⟩) (by simpa using n2) c0
    have HA1 : Hid (wc.heap[lb]? = some (.cells ar 60)) := (HT.out.block lb l2 (by simpa using n3)).trans HA.out
    have HK1 : Hid (wc.heap[bk]? = some (.cells #[.slice (some ⟨lb, 0, none⟩) n cap, .map (some mb), .int .i64 turns] 120)) := (HT.out.block bk l1 (by simpa using n2)).trans HHd.out
    go_wp2_with fail
    rw [show (Value.slice (some ⟨lb, 0, none⟩) n cap) = Value.slice (some ⟨lb, 0, none⟩) ps.length cap by rw [HN.out]]
    refine (del_at lb m cap _ ps ar _ (by omega) HA1.out hs (by rw [← HN.out]; exact hm) (by rw [← HN.out]; exact hc) hcap HC.out).mono ?_
    rintro e w2 ⟨rfl, ⟨ar', ha', hs', hC'⟩, hT2⟩
    have hk2 : w2.heap[bk]? = some (.cells #[.slice (some ⟨lb, 0, none⟩) n cap, .map (some mb), .int .i64 turns] 120) := (hT2.block bk (by have := HT.out.size; omega) (by simpa using n1)).trans HK1.out
    have f0 : w2.cell? ⟨bk, 0, none⟩ = some (.slice (some ⟨lb, 0, none⟩) n cap) := by rw [blk_cell hk2]; rfl
    have z0 := blk_frozen hk2
    obtain ⟨n', hn'⟩ : ∃ n', n' = ps.length - 1 := ⟨_, rfl⟩
    rw [← hn']
    have hEl : (ps.eraseIdx m).length = n' := by rw [List.length_eraseIdx, if_pos (by rw [← HN.out]; exact hm), hn']
    have hmn : m ≤ n' := by rw [hn', ← HN.out]; omega
    have hn5 : n' ≤ 500 := by rw [hn', ← HN.out]; omega
    have hnc : n' ≤ cap := by rw [hn', ← HN.out]; omega
    obtain ⟨w3, hw3⟩ : ∃ w3, w3 = w2.setCell ⟨bk, 0, none⟩ (.slice (some ⟨lb, 0, none⟩) n' cap) := ⟨_, rfl⟩
    have hk3 : w3.heap[bk]? = some (.cells #[.slice (some ⟨lb, 0, none⟩) n' cap, .map (some mb), .int .i64 turns] 120) := by rw [hw3, blk_set hk2]; simp
    have ha3 : w3.heap[lb]? = some (.cells ar' 60) := by rw [hw3, Below.heap_setCell _ _ _ _ (by simpa using n1.symm)]; exact ha'
    have hT3 : Bt [bk, lb, mb] w w3 := by rw [hw3]; exact ((HT.out.mono (by simp)).trans (hT2.mono (by simp))).setCell (by simp) _
    have HM3 : Hid (MapW w3 mb) := by rw [hw3]; exact MapW.bt (((Bt.refl [bk] _).setCell (by simp) _)) (by simpa using n2.symm) (MapW.bt hT2 (by simpa using n3.symm) HM.out)
    have HK3 : Hid (w3.heap[bk]? = some (.cells #[.slice (some ⟨lb, 0, none⟩) n' cap, .map (some mb), .int .i64 turns] 120)) := hk3
    have HA3 : Hid (w3.heap[lb]? = some (.cells ar' 60)) := ha3
    have HC3 : Hid (Cont (ps.eraseIdx m) ar' (ps.eraseIdx m).length) := hC'
    have HT3 : Hid (Bt [bk, lb, mb] w w3) := hT3
    have HEl : Hid ((ps.eraseIdx m).length = n') := hEl
    obtain ⟨lk, la⟩ : bk < w3.heap.size ∧ lb < w3.heap.size := ⟨(Array.getElem?_eq_some_iff.1 hk3).1, (Array.getElem?_eq_some_iff.1 ha3).1⟩
    clear hk3 ha3 hC' hT3 hT2 hn' hk2 ha' hEl HHd HA HC HA1 HK1 HM HT HW c0
    go_wp2_with fail
    rw [← hw3]; clear hw3 f0 z0
    go_loopw [4] (fun i wr => ∃ k : Nat, i = .int .i64 k ∧ m ≤ k ∧ k ≤ n' ∧ Hid (MapW wr mb) ∧ Hid (Bt [mb] w3 wr)) (fun i _ => n' - (intOf i).toNat)
    case atStart => exact ⟨m, rfl, Nat.le_refl _, hmn, HM3, Bt.refl _ _⟩
    case round =>
      obtain ⟨k, rfl, hmk, hkn, HMr, HTr⟩ := hrel
      have hkr : wr.heap[bk]? = some (.cells #[.slice (some ⟨lb, 0, none⟩) n' cap, .map (some mb), .int .i64 turns] 120) := (HTr.out.block bk lk (by simpa using n2)).trans HK3.out
      have har : wr.heap[lb]? = some (.cells ar' 60) := (HTr.out.block lb la (by simpa using n3)).trans HA3.out
      have c0 : wr.cell? ⟨bk, 0, none⟩ = some (.slice (some ⟨lb, 0, none⟩) n' cap) := by rw [blk_cell hkr]; rfl
      have c1 : wr.cell? ⟨bk, 1, none⟩ = some (.map (some mb)) := by rw [blk_cell hkr]; rfl
      by_cases k1 : k < n'
      · obtain ⟨q, hq⟩ : ∃ q, (ps.eraseIdx m)[k]? = some q := ⟨(ps.eraseIdx m)[k]'(by rw [HEl.out]; exact k1), by simp⟩
        obtain ⟨d0, d1, d2, d3, d4, d5, d6, d7, d8, d9, d10⟩ := row_cells har HC3.out hq
        have mk := m_key
        clear hkr har hq
        go_wp2_with fail
        go_region_with (go_at_call 149; refine (ikey_any q _).mono ?_; rintro e w4 ⟨rfl, hx⟩; replace hx := und1 hx; replace c0 := cell_later hx c0; replace c1 := cell_later hx c1; obtain ⟨w5, hu, hM, hT⟩ := run_upd_w q.key (.int .i64 (k : Int)) w4 mb (HMr.out.later hx); have HM5 : Hid (MapW w5 mb) := hM; have HT5 : Hid (Bt [mb] w3 w5) := HTr.out.trans ((Bt.of_below hx).trans hT); clear hM hT hx)
        all_goals
          go_wp2_with fail
          go_roundw
          case rel => exact ⟨k + 1, by go_num, by omega, by omega, HM5, HT5⟩
          case measure => simp [intOf]; omega
      · go_wp2_with fail
        go_end0
        refine ⟨rfl, ⟨?_, ar', har, hs', HC3.out⟩, HT3.out.trans (HTr.out.mono (by simp))⟩
        rw [HEl.out]; exact hkr
end Go.Proofs.Ytkipmogmejfmcaa

/-
  OWN WORK. Put of the program: the book is written into, whole.
-/
namespace Go.Proofs.Ytkipmogmejfmcaa
open Go.RowKit
attribute [local go_sem] run_store_float
set_option linter.unusedVariables false

theorem BRow.of {w : World} {bk lb mb cap : Nat} {ds : List PD} {turns : Int} (h : Book w bk lb mb cap ds turns) : BRow w bk lb mb cap ds turns := ⟨h.head, h.row⟩

set_option maxRecDepth 20000 in
set_option maxHeartbeats 2000000 in
theorem bput_del (bk lb mb cap : Nat) (ps : List PD) (turns : Int) (key v : VD) (w : World) (hlen : ps.length ≤ 500) (hB : Book w bk lb mb cap ps turns) (m : Nat) (p : PD) (hm : m < ps.length) (hpm : ps[m]? = some p) (h0' : eidx key ps 0 = (m : Int)) (hk : v.k = 0) (hc : ps.length < cap) (hcap : cap ≤ 1048577) :
    Calls Try.prog 90 #[.pointer (some ⟨bk, 0, none⟩), key.v, v.v] w fun e w' => e = .returned (.tuple #[]) ∧ BRow w' bk lb mb cap (ps.eraseIdx m) turns ∧ Bt [bk, lb, mb] w w' := by
  have HM : Hid (ps[m]? = some p) := hpm
  have HK0 : Hid (v.k = 0) := hk
  clear hpm hk
  have HB : Hid (Book w bk lb mb cap ps turns) := hB
  clear hB
  go_enter Try.func90, Try.ntmps90
  go_wp2_with fail
  obtain ⟨b0, b1⟩ := heap2 w (VO key.k key.n key.f key.s key.r) (VO v.k v.n v.f v.s v.r)
  obtain ⟨w1, hw⟩ : ∃ w1, w1 = (w.alloc (VO key.k key.n key.f key.s key.r)).alloc (VO v.k v.n v.f v.s v.r) := ⟨_, rfl⟩
  rw [← hw] at b0 b1
  have hb : Below w.heap.size w w1 := by rw [hw]; exact bw2 _ _ _
  rw [← hw]; clear hw
  have d0 : w1.cell? ⟨w.heap.size, 0, none⟩ = some (.int .i64 key.k) := by rw [blk_cell b0]; rfl
  have d1 : w1.cell? ⟨w.heap.size, 1, none⟩ = some (.int .i64 key.n) := by rw [blk_cell b0]; rfl
  have d2 : w1.cell? ⟨w.heap.size, 2, none⟩ = some (.float .f64 key.f) := by rw [blk_cell b0]; rfl
  have d3 : w1.cell? ⟨w.heap.size, 3, none⟩ = some (.string key.s) := by rw [blk_cell b0]; rfl
  have d4 : w1.cell? ⟨w.heap.size, 4, none⟩ = some (.int .i64 key.r) := by rw [blk_cell b0]; rfl
  have e0 := lat_cell d0; have e1 := lat_cell d1; have e2 := lat_cell d2; have e3 := lat_cell d3; have e4 := lat_cell d4
  have HL : ∀ x : Lat w1, Hid (MapAt x.wd mb ps) := fun x => HB.out.map.later (hb.trans (x.below.mono hb.size))
  have HC1 : ∀ x : Lat w1, Hid (x.wd.cell? ⟨bk, 1, none⟩ = some (.map (some mb))) := fun x => lat_cell (cell_later hb (by rw [blk_cell HB.out.head]; rfl)) x
  haveI := lat_some w1
  refine wp_region_lat (by kernel_rfl) (by kernel_rfl) ?_
  repeat (go_big_quiet_step ((go_at_call 108; refine lat_calls (find_any key bk mb ps _ (HL _).out (HC1 _).out))))
  refine wpQuiet_nil ?_
  rintro _ ⟨nq, rfl⟩
  obtain ⟨w2, hw2⟩ : ∃ w2, w2 = nq.wd := ⟨_, rfl⟩
  have hb12 : Below w1.heap.size w1 w2 := by rw [hw2]; exact nq.below
  rw [← hw2]
  clear hw2 e0 e1 e2 e3 e4 HL HC1
  have hlt0 := (Array.getElem?_eq_some_iff.1 b0).1
  have hlt1 := (Array.getElem?_eq_some_iff.1 b1).1
  have b0' := (hb12.block _ hlt0).trans b0
  have b1' := (hb12.block _ hlt1).trans b1
  have hb2 := hb.trans (hb12.mono hb.size)
  have HB2 : Hid (Book w2 bk lb mb cap ps turns) := HB.out.later hb2
  obtain ⟨hl1, hl2, hl3⟩ := book_lt HB.out
  have hsz2 := hb12.size
  clear d0 d1 d2 d3 d4 b0 b1 hb12 nq
  have d0 := blk_cell b0' 0; have d1 := blk_cell b0' 1; have d2 := blk_cell b0' 2; have d3 := blk_cell b0' 3; have d4 := blk_cell b0' 4
  have u0 := blk_cell b1' 0; have u1 := blk_cell b1' 1; have u2 := blk_cell b1' 2; have u3 := blk_cell b1' 3; have u4 := blk_cell b1' 4
  have h0 := blk_cell HB2.out.head 0; have h1 := blk_cell HB2.out.head 1; have h2 := blk_cell HB2.out.head 2
  have zh := blk_frozen HB2.out.head
  simp only [List.getElem?_toArray, List.getElem?_cons_zero, List.getElem?_cons_succ] at d0 d1 d2 d3 d4 u0 u1 u2 u3 u4 h0 h1 h2
  have hk2 : (v.k == 0) = true := by simpa using HK0.out
  go_wp2_with fail
  refine (rem_any bk lb mb cap m ps p turns _ HB2.out hlen hm HM.out hc hcap).mono ?_
  rintro e w3 ⟨rfl, hR, hT⟩
  have HR : Hid (BRow w3 bk lb mb cap (ps.eraseIdx m) turns) := hR
  have HT : Hid (Bt [bk, lb, mb] w w3) := (Bt.of_below hb2).trans hT
  clear hR hT
  go_wp2_with fail
  go_end0
  exact ⟨rfl, HR.out, HT.out⟩

set_option maxRecDepth 20000 in
set_option maxHeartbeats 2000000 in
theorem bput_new (bk lb mb cap : Nat) (ps : List PD) (turns : Int) (key v : VD) (w : World) (hlen : ps.length < 500) (hB : Book w bk lb mb cap ps turns) (h0' : eidx key ps 0 < 0) (hk : v.k ≠ 0) (ht1 : 0 ≤ turns) (ht2 : turns < 1000000000000) (hc : ps.length < cap) (hcap : cap ≤ 1048577) :
    Calls Try.prog 90 #[.pointer (some ⟨bk, 0, none⟩), key.v, v.v] w fun e w' => e = .returned (.tuple #[]) ∧ BRow w' bk lb mb cap (ps ++ [⟨key, v, turns + 1⟩]) (turns + 1) ∧ Bt [bk, lb, mb] w w' := by
  have k0 : decide (0 ≤ eidx key ps 0) = false := by simpa using h0'
  have H0 : Hid (eidx key ps 0 < 0) := h0'
  have hk2 : (v.k != 0) = true := by simpa using hk
  have hn2 : decide ((ps.length : Int) < 500) = true := by simp; omega
  have ht3 : decide (turns < 1000000000000) = true := by simpa using ht2
  have HB : Hid (Book w bk lb mb cap ps turns) := hB
  clear hB
  go_enter Try.func90, Try.ntmps90
  go_wp2_with fail
  obtain ⟨b0, b1⟩ := heap2 w (VO key.k key.n key.f key.s key.r) (VO v.k v.n v.f v.s v.r)
  obtain ⟨w1, hw⟩ : ∃ w1, w1 = (w.alloc (VO key.k key.n key.f key.s key.r)).alloc (VO v.k v.n v.f v.s v.r) := ⟨_, rfl⟩
  rw [← hw] at b0 b1
  have hb : Below w.heap.size w w1 := by rw [hw]; exact bw2 _ _ _
  rw [← hw]; clear hw
  have d0 : w1.cell? ⟨w.heap.size, 0, none⟩ = some (.int .i64 key.k) := by rw [blk_cell b0]; rfl
  have d1 : w1.cell? ⟨w.heap.size, 1, none⟩ = some (.int .i64 key.n) := by rw [blk_cell b0]; rfl
  have d2 : w1.cell? ⟨w.heap.size, 2, none⟩ = some (.float .f64 key.f) := by rw [blk_cell b0]; rfl
  have d3 : w1.cell? ⟨w.heap.size, 3, none⟩ = some (.string key.s) := by rw [blk_cell b0]; rfl
  have d4 : w1.cell? ⟨w.heap.size, 4, none⟩ = some (.int .i64 key.r) := by rw [blk_cell b0]; rfl
  have e0 := lat_cell d0; have e1 := lat_cell d1; have e2 := lat_cell d2; have e3 := lat_cell d3; have e4 := lat_cell d4
  have HL : ∀ x : Lat w1, Hid (MapAt x.wd mb ps) := fun x => HB.out.map.later (hb.trans (x.below.mono hb.size))
  have HC1 : ∀ x : Lat w1, Hid (x.wd.cell? ⟨bk, 1, none⟩ = some (.map (some mb))) := fun x => lat_cell (cell_later hb (by rw [blk_cell HB.out.head]; rfl)) x
  haveI := lat_some w1
  refine wp_region_lat (by kernel_rfl) (by kernel_rfl) ?_
  repeat (go_big_quiet_step ((go_at_call 108; refine lat_calls (find_any key bk mb ps _ (HL _).out (HC1 _).out))))
  refine wpQuiet_nil ?_
  rintro _ ⟨nq, rfl⟩
  obtain ⟨w2, hw2⟩ : ∃ w2, w2 = nq.wd := ⟨_, rfl⟩
  have hb12 : Below w1.heap.size w1 w2 := by rw [hw2]; exact nq.below
  rw [← hw2]
  clear hw2 e0 e1 e2 e3 e4 HL HC1
  have hlt0 := (Array.getElem?_eq_some_iff.1 b0).1
  have hlt1 := (Array.getElem?_eq_some_iff.1 b1).1
  have b0' := (hb12.block _ hlt0).trans b0
  have b1' := (hb12.block _ hlt1).trans b1
  have hb2 := hb.trans (hb12.mono hb.size)
  have HB2 : Hid (Book w2 bk lb mb cap ps turns) := HB.out.later hb2
  obtain ⟨hl1, hl2, hl3⟩ := book_lt HB.out
  have hsz2 := hb12.size
  clear d0 d1 d2 d3 d4 b0 b1 hb12 nq
  have d0 := blk_cell b0' 0; have d1 := blk_cell b0' 1; have d2 := blk_cell b0' 2; have d3 := blk_cell b0' 3; have d4 := blk_cell b0' 4
  have u0 := blk_cell b1' 0; have u1 := blk_cell b1' 1; have u2 := blk_cell b1' 2; have u3 := blk_cell b1' 3; have u4 := blk_cell b1' 4
  have h0 := blk_cell HB2.out.head 0; have h1 := blk_cell HB2.out.head 1; have h2 := blk_cell HB2.out.head 2
  have zh := blk_frozen HB2.out.head
  simp only [List.getElem?_toArray, List.getElem?_cons_zero, List.getElem?_cons_succ] at d0 d1 d2 d3 d4 u0 u1 u2 u3 u4 h0 h1 h2
  obtain ⟨w3, hw3⟩ : ∃ w3, w3 = w2.setCell ⟨bk, 2, none⟩ (.int .i64 (turns + 1)) := ⟨_, rfl⟩
  have n1 := HB2.out.ne1; have n2 := HB2.out.ne2; have n3 := HB2.out.ne3
  have hT23 : Bt [bk] w2 w3 := by rw [hw3]; exact (Bt.refl [bk] _).setCell (by simp) _
  have HB3 : Hid (Book w3 bk lb mb cap ps (turns + 1)) := by
    obtain ⟨ar, ha, hs, hC⟩ := HB2.out.row
    refine ⟨?_, ⟨ar, (hT23.block lb (Array.getElem?_eq_some_iff.1 ha).1 (by simpa using n1.symm)).trans ha, hs, hC⟩, MapAt.bt hT23 (by simpa using n2.symm) HB2.out.map, n1, n2, n3⟩
    rw [hw3, blk_set HB2.out.head]; simp
  have HT3 : Hid (Bt [bk, lb, mb] w w3) := (Bt.of_below hb2).trans (hT23.mono (by simp))
  have g0 := blk_cell HB3.out.head 2
  simp only [List.getElem?_toArray, List.getElem?_cons_zero, List.getElem?_cons_succ] at g0
  have b0'' := (hT23.block w.heap.size (Array.getElem?_eq_some_iff.1 b0').1 (by simp; omega)).trans b0'
  have b1'' := (hT23.block (w.heap.size + 1) (Array.getElem?_eq_some_iff.1 b1').1 (by simp; omega)).trans b1'
  have a0 := blk_cell b0'' 0; have a1 := blk_cell b0'' 1; have a2 := blk_cell b0'' 2; have a3 := blk_cell b0'' 3; have a4 := blk_cell b0'' 4
  have e0 := blk_cell b1'' 0; have e1 := blk_cell b1'' 1; have e2 := blk_cell b1'' 2; have e3 := blk_cell b1'' 3; have e4 := blk_cell b1'' 4
  simp only [List.getElem?_toArray, List.getElem?_cons_zero, List.getElem?_cons_succ] at a0 a1 a2 a3 a4 e0 e1 e2 e3 e4
  go_wp2_with fail
  rw [← hw3]
  clear hw3 b0' b1' b0'' b1'' d0 d1 d2 d3 d4 u0 u1 u2 u3 u4 h0 h1 h2 zh hT23
  go_region_with (go_at_call 109; refine (add_any ⟨key, v, turns + 1⟩ bk lb mb cap ps (turns + 1) _ (HB3.out.later (Below.refl _ _).drew) hc H0.out hcap).mono ?_; rintro e w4 ⟨rfl, hK4, hT⟩; have HK4 : Hid (Book w4 bk lb mb cap (ps ++ [⟨key, v, turns + 1⟩]) (turns + 1)) := hK4; have HT4 : Hid (Bt [bk, lb, mb] w w4) := HT3.out.trans (((Bt.refl _ _).drew).trans hT); clear hK4 hT)
  all_goals
    go_wp2_with fail
    go_end0
    exact ⟨rfl, BRow.of HK4.out, HT4.out⟩
end Go.Proofs.Ytkipmogmejfmcaa

/-
  OWN WORK. Put of the program: the book behind it.
-/
namespace Go.Proofs.Ytkipmogmejfmcaa
open Go.RowKit
set_option linter.unusedVariables false

theorem fidx_sam (q : VD) (ps : List PD) (i : Nat) : fidx q ps i = -1 ∨ ∃ (m : Nat) (p : PD), fidx q ps i = ((i + m : Nat) : Int) ∧ ps[m]? = some p ∧ p.key.sam q = true := by
  induction ps generalizing i with
  | nil => exact .inl rfl
  | cons d ps ih =>
    have e2 : fidx q (d :: ps) i = if d.key.sam q = true then (i : Int) else fidx q ps (i + 1) := rfl
    rw [e2]
    by_cases h : d.key.sam q = true
    · rw [if_pos h]; exact .inr ⟨0, d, by simp, rfl, h⟩
    · rw [if_neg h]
      rcases ih (i + 1) with h1 | ⟨m, p, h1, h2, h3⟩
      · exact .inl h1
      · exact .inr ⟨m + 1, p, by rw [h1]; congr 1; omega, by simpa using h2, h3⟩

theorem bput_any (bk lb mb : Nat) (ps : List PD) (turns : Int) (q v : VD) (w : World) (ht : tokV ps turns = true) (hB : Book w bk lb mb (ps.length + 1) ps turns) (hps : ∀ d ∈ ps, d.key.f < 18446744073709551616 ∧ d.key.kk = true) (hqf : q.f < 18446744073709551616) (hq : q.kk = true) :
    Calls Try.prog 90 #[.pointer (some ⟨bk, 0, none⟩), q.v, v.v] w fun e w' => e = .returned (.tuple #[]) ∧ BRow w' bk lb mb (ps.length + 1) (putPs ps turns q v) (putT ps turns q v) ∧ Bt [bk, lb, mb] w w' := by
  obtain ⟨hn, ht1, ht2⟩ := tokV_len ht
  have hn5 : ps.length ≤ 500 := by omega
  have he := eidx_fidx q hqf hq ps 0 hps
  have hmet := fidx_met q ps 0
  rcases fidx_sam q ps 0 with h | ⟨m, p, h1, h2, h3⟩
  · have hm : metL q ps = false := by rw [h] at hmet; simpa using hmet.symm
    have ho : outL q v ps = ps := outL_no hm
    have hx : eidx q ps 0 < 0 := by rw [he, h]; decide
    by_cases hnew : newQ ps turns q v = true
    · have e1 : putPs ps turns q v = ps ++ [⟨q, v, turns + 1⟩] := by unfold putPs; rw [if_pos hnew, ho]
      have e2 : putT ps turns q v = turns + 1 := by unfold putT; rw [if_pos hnew]
      rw [e1, e2]
      unfold newQ at hnew
      simp only [Bool.and_eq_true, decide_eq_true_eq] at hnew
      obtain ⟨⟨⟨_, g1⟩, g2⟩, g3⟩ := hnew
      exact bput_new bk lb mb _ ps turns q v w g2 hB hx (by simpa using g1) ht1 g3 (by omega) (by omega)
    · have e1 : putPs ps turns q v = ps := by unfold putPs; rw [if_neg hnew, ho]
      have e2 : putT ps turns q v = turns := by unfold putT; rw [if_neg hnew]
      rw [e1, e2]
      refine (bput_skip bk lb mb _ ps turns q v w hn5 hB hx ?_).mono ?_
      · unfold newQ at hnew
        rw [hm] at hnew
        simp at hnew
        by_cases g1 : v.k = 0
        · exact .inl g1
        · by_cases g2 : ps.length < 500
          · exact .inr (.inr ⟨g1, g2, by have := hnew g1 g2; omega⟩)
          · exact .inr (.inl ⟨g1, g2⟩)
      · rintro e w1 ⟨rfl, hK, hT⟩
        exact ⟨rfl, BRow.of hK, hT⟩
  · rw [Nat.zero_add] at h1
    have hm : metL q ps = true := by rw [h1, decide_eq_false (by omega)] at hmet; simpa using hmet.symm
    have hnew : ¬ newQ ps turns q v = true := by unfold newQ; rw [hm]; simp
    have e1 : putPs ps turns q v = outL q v ps := by unfold putPs; rw [if_neg hnew]
    have e2 : putT ps turns q v = turns := by unfold putT; rw [if_neg hnew]
    have hlt := (List.getElem?_eq_some_iff.1 h2).1
    have ho : outL q v ps = _ := outL_at (v := v) h2 h3 (fun j x hj hx => once (tokV_apart ht) hps hqf hq hj h2 hx h3)
    rw [e1, e2, ho]
    by_cases hk : v.k = 0
    · rw [if_pos hk, List.append_nil, ← List.eraseIdx_eq_take_drop_succ]
      exact bput_del bk lb mb _ ps turns q v w hn5 hB m p hlt h2 (by rw [he, h1]) hk (by omega) (by omega)
    · rw [if_neg hk]
      have e3 : ps.take m ++ [PD.mk p.key v p.turn] ++ ps.drop (m + 1) = ps.set m (PD.mk p.key v p.turn) := by
        rw [List.set_eq_take_append_cons_drop, if_pos hlt]; simp
      rw [e3]
      exact bput_rep bk lb mb _ ps turns q v w hn5 hB m p hlt h2 (by rw [he, h1]) hk (by omega)
end Go.Proofs.Ytkipmogmejfmcaa
