/-
  OWN WORK. Tables: TableOk of the specification.
-/
import Derived.Test.YtkipmogmejfmcaaTabK
namespace Go.Proofs.Ytkipmogmejfmcaa
open Go.RowKit
attribute [local go_sem] run_store_float
set_option linter.unusedVariables false

/-- A boxed pair, behind a call that keeps what was there. -/
theorem box11 {w w1 : World} {v0 v1 v2 v3 v4 v5 v6 v7 v8 v9 v10 : Value} {t : TypeId} (hb : Below (w.alloc (.cells #[v0, v1, v2, v3, v4, v5, v6, v7, v8, v9, v10] t)).heap.size (w.alloc (.cells #[v0, v1, v2, v3, v4, v5, v6, v7, v8, v9, v10] t)) w1) :
    Below w.heap.size w w1 ∧ w1.cell? ⟨w.heap.size, 0, none⟩ = some v0 ∧ w1.cell? ⟨w.heap.size, 1, none⟩ = some v1 ∧ w1.cell? ⟨w.heap.size, 2, none⟩ = some v2 ∧ w1.cell? ⟨w.heap.size, 3, none⟩ = some v3 ∧ w1.cell? ⟨w.heap.size, 4, none⟩ = some v4 ∧ w1.cell? ⟨w.heap.size, 5, none⟩ = some v5 ∧ w1.cell? ⟨w.heap.size, 6, none⟩ = some v6 ∧ w1.cell? ⟨w.heap.size, 7, none⟩ = some v7 ∧ w1.cell? ⟨w.heap.size, 8, none⟩ = some v8 ∧ w1.cell? ⟨w.heap.size, 9, none⟩ = some v9 ∧ w1.cell? ⟨w.heap.size, 10, none⟩ = some v10 := by
  refine ⟨((Below.refl _ _).alloc (Nat.le_refl _) _).trans (hb.mono (by simp)), ?_, ?_, ?_, ?_, ?_, ?_, ?_, ?_, ?_, ?_, ?_⟩
  all_goals
    rw [hb.cell (by simp)]
    simp [go_sem]

/-- The eleven cells of a boxed pair. -/
def PBox (w : World) (b : Nat) (p : PD) : Prop := w.cell? ⟨b, 0, none⟩ = some (.int .i64 p.key.k) ∧ w.cell? ⟨b, 1, none⟩ = some (.int .i64 p.key.n) ∧ w.cell? ⟨b, 2, none⟩ = some (.float .f64 p.key.f) ∧ w.cell? ⟨b, 3, none⟩ = some (.string p.key.s) ∧ w.cell? ⟨b, 4, none⟩ = some (.int .i64 p.key.r) ∧ w.cell? ⟨b, 5, none⟩ = some (.int .i64 p.val.k) ∧ w.cell? ⟨b, 6, none⟩ = some (.int .i64 p.val.n) ∧ w.cell? ⟨b, 7, none⟩ = some (.float .f64 p.val.f) ∧ w.cell? ⟨b, 8, none⟩ = some (.string p.val.s) ∧ w.cell? ⟨b, 9, none⟩ = some (.int .i64 p.val.r) ∧ w.cell? ⟨b, 10, none⟩ = some (.int .i64 p.turn)

theorem PBox.later {w wx : World} {b : Nat} {p : PD} (hb : Below w.heap.size w wx) (h : PBox w b p) : PBox wx b p := by
  obtain ⟨d0, d1, d2, d3, d4, d5, d6, d7, d8, d9, d10⟩ := h
  exact ⟨cell_later hb d0, cell_later hb d1, cell_later hb d2, cell_later hb d3, cell_later hb d4, cell_later hb d5, cell_later hb d6, cell_later hb d7, cell_later hb d8, cell_later hb d9, cell_later hb d10⟩

/-- Some key of those is the same as this pair's. -/
def clash (p : PD) (ds : List PD) : Bool := ds.any fun d => samV d.key.k d.key.n d.key.f d.key.s d.key.r p.key.k p.key.n p.key.f p.key.s p.key.r

/-- The pairs from one on are as a table's have to be, behind those that are done. -/
def tokL (turns : Int) : List PD → List PD → Int → Bool
  | _, [], _ => true
  | ds, p :: rest, last => kok p.key.k p.key.n p.key.f p.key.s p.key.r && vok p.val.k p.val.n p.val.f p.val.s p.val.r && !(p.val.k == 0) && decide (last < p.turn) && decide (p.turn ≤ turns) && !clash p ds && tokL turns (ds ++ [p]) rest p.turn

def PD.ok (p : PD) : Prop := p.key.ok ∧ p.val.ok ∧ (-9223372036854775808 ≤ p.turn ∧ p.turn ≤ 9223372036854775807)

theorem take_snoc {ps : List PD} {m : Nat} {p : PD} (h : ps[m]? = some p) : ps.take (m + 1) = ps.take m ++ [p] := by
  obtain ⟨hlt, he⟩ := List.getElem?_eq_some_iff.1 h
  rw [List.take_succ_eq_append_getElem hlt, he]
theorem drop_snoc {ps : List PD} {m : Nat} {p : PD} (h : ps[m]? = some p) : ps.drop m = p :: ps.drop (m + 1) := by
  obtain ⟨hlt, he⟩ := List.getElem?_eq_some_iff.1 h
  rw [List.drop_eq_getElem_cons hlt, he]
theorem clash_snoc (p d : PD) (ds : List PD) : clash p (ds ++ [d]) = (clash p ds || samV d.key.k d.key.n d.key.f d.key.s d.key.r p.key.k p.key.n p.key.f p.key.s p.key.r) := by
  unfold clash; simp

set_option maxRecDepth 20000 in
set_option maxHeartbeats 4000000 in
theorem tok_loop (b off len cap : Nat) (ps : List PD) (turns : Int) (w : World) (hl : ps.length = len) (hp : PAt w b off ps) (hlen : len ≤ 500) (ht1 : 0 ≤ turns) (ht2 : turns ≤ 1000000000000) (hok : ∀ p ∈ ps, p.ok) :
    Calls Try.prog 36 #[.agg #[.slice (some ⟨b, off, none⟩) len cap, .int .i64 turns]] w fun e w' => e = .returned (.bool (tokL turns [] ps 0)) ∧ Below w.heap.size w w' := by
  go_enter Try.func36, Try.ntmps36
  go_wp2
  go_loopw [3, 24] (fun la c wr => ∃ (m : Nat) (last : Int), m ≤ len ∧ c = .int .i64 m ∧ la = .int .i64 last ∧ Below w.heap.size w wr ∧ wr.cell? ⟨w.heap.size, 0, none⟩ = some (.slice (some ⟨b, off, none⟩) len cap) ∧ wr.cell? ⟨w.heap.size, 1, none⟩ = some (.int .i64 turns) ∧ Hid (tokL turns (ps.take m) (ps.drop m) last = tokL turns [] ps 0)) (fun _ c _ => len - (intOf c).toNat)
  case atStart => exact ⟨0, 0, Nat.zero_le _, rfl, rfl, bw1 _ _, by simp [go_sem], by simp [go_sem], rfl⟩
  case round =>
    obtain ⟨m, last, hm, rfl, rfl, hB, t0, t1, hF⟩ := hrel
    have hz := World.block_lt_of_cell? _ _ t0
    by_cases h1 : m < len
    · obtain ⟨p, hpm⟩ : ∃ p, ps[m]? = some p := ⟨ps[m]'(by omega), by simp⟩
      have c0 : wr.cell? ⟨b, off + m * 11, none⟩ = some (.int .i64 p.key.k) := cell_later hB (hp m p hpm 0 _ rfl)
      have c1 : wr.cell? ⟨b, off + m * 11 + 1, none⟩ = some (.int .i64 p.key.n) := cell_later hB (hp m p hpm 1 _ rfl)
      have c2 : wr.cell? ⟨b, off + m * 11 + 2, none⟩ = some (.float .f64 p.key.f) := cell_later hB (hp m p hpm 2 _ rfl)
      have c3 : wr.cell? ⟨b, off + m * 11 + 3, none⟩ = some (.string p.key.s) := cell_later hB (hp m p hpm 3 _ rfl)
      have c4 : wr.cell? ⟨b, off + m * 11 + 4, none⟩ = some (.int .i64 p.key.r) := cell_later hB (hp m p hpm 4 _ rfl)
      have c5 : wr.cell? ⟨b, off + m * 11 + 5, none⟩ = some (.int .i64 p.val.k) := cell_later hB (hp m p hpm 5 _ rfl)
      have c6 : wr.cell? ⟨b, off + m * 11 + 6, none⟩ = some (.int .i64 p.val.n) := cell_later hB (hp m p hpm 6 _ rfl)
      have c7 : wr.cell? ⟨b, off + m * 11 + 7, none⟩ = some (.float .f64 p.val.f) := cell_later hB (hp m p hpm 7 _ rfl)
      have c8 : wr.cell? ⟨b, off + m * 11 + 8, none⟩ = some (.string p.val.s) := cell_later hB (hp m p hpm 8 _ rfl)
      have c9 : wr.cell? ⟨b, off + m * 11 + 9, none⟩ = some (.int .i64 p.val.r) := cell_later hB (hp m p hpm 9 _ rfl)
      have c10 : wr.cell? ⟨b, off + m * 11 + 10, none⟩ = some (.int .i64 p.turn) := cell_later hB (hp m p hpm 10 _ rfl)
      obtain ⟨hpk, hpv, hpt1, hpt2⟩ := hok p (List.mem_of_getElem? hpm)
      have HD : Hid ((kok p.key.k p.key.n p.key.f p.key.s p.key.r && vok p.val.k p.val.n p.val.f p.val.s p.val.r && !(p.val.k == 0) && decide (last < p.turn) && decide (p.turn ≤ turns) && !clash p (ps.take m) && tokL turns (ps.take (m + 1)) (ps.drop (m + 1)) p.turn) = tokL turns [] ps 0) := by
        have := hF.out; rw [drop_snoc hpm] at this; rw [take_snoc hpm]; exact this
      clear hF
      have HP : Hid (PAt w b off ps) := hp
      have HO : Hid (∀ p ∈ ps, p.ok) := hok
      have HM : Hid (ps[m]? = some p) := hpm
      clear hp hok hpm
      by_cases g1 : kok p.key.k p.key.n p.key.f p.key.s p.key.r = false
      · have HR : Hid (tokL turns [] ps 0 = false) := by show tokL turns [] ps 0 = false; rw [← HD.out]; simp [g1]
        clear HD
        go_wp2_with fail
        refine (keyok_any _ _ _ _ _ _ hpk.2 hpk.1).mono ?_
        rintro e w1 ⟨rfl, hx⟩
        obtain ⟨hx, d0, d1, d2, d3, d4, d5, d6, d7, d8, d9, d10⟩ := box11 hx
        replace hB := hB.trans (hx.mono hB.size)
        replace t0 := cell_later hx t0; replace t1 := cell_later hx t1
        clear hx
        go_wp2_with fail
        go_ret
        exact ⟨by rw [HR.out]; rfl, hB⟩
      replace g1 : kok p.key.k p.key.n p.key.f p.key.s p.key.r = true := by simpa using g1
      by_cases g2 : vok p.val.k p.val.n p.val.f p.val.s p.val.r = false
      · have HR : Hid (tokL turns [] ps 0 = false) := by show tokL turns [] ps 0 = false; rw [← HD.out]; simp [g2]
        clear HD
        go_wp2_with fail
        refine (keyok_any _ _ _ _ _ _ hpk.2 hpk.1).mono ?_
        rintro e w1 ⟨rfl, hx⟩
        obtain ⟨hx, d0, d1, d2, d3, d4, d5, d6, d7, d8, d9, d10⟩ := box11 hx
        replace hB := hB.trans (hx.mono hB.size)
        replace t0 := cell_later hx t0; replace t1 := cell_later hx t1
        clear hx
        go_wp2_with fail
        refine (vok_any _ _ _ _ _ _ hpv.2).mono ?_
        rintro e w2 ⟨rfl, hx⟩
        replace hB := hB.trans (hx.mono hB.size)
        replace t0 := cell_later hx t0; replace t1 := cell_later hx t1
        replace d0 := cell_later hx d0; replace d1 := cell_later hx d1; replace d2 := cell_later hx d2; replace d3 := cell_later hx d3; replace d4 := cell_later hx d4; replace d5 := cell_later hx d5; replace d6 := cell_later hx d6; replace d7 := cell_later hx d7; replace d8 := cell_later hx d8; replace d9 := cell_later hx d9; replace d10 := cell_later hx d10
        clear hx
        go_wp2_with fail
        go_ret
        exact ⟨by rw [HR.out]; rfl, hB⟩
      replace g2 : vok p.val.k p.val.n p.val.f p.val.s p.val.r = true := by simpa using g2
      by_cases g3 : (p.val.k == 0) = true
      · have HR : Hid (tokL turns [] ps 0 = false) := by show tokL turns [] ps 0 = false; rw [← HD.out]; simp at g3; simp [g3]
        clear HD
        go_wp2_with fail
        refine (keyok_any _ _ _ _ _ _ hpk.2 hpk.1).mono ?_
        rintro e w1 ⟨rfl, hx⟩
        obtain ⟨hx, d0, d1, d2, d3, d4, d5, d6, d7, d8, d9, d10⟩ := box11 hx
        replace hB := hB.trans (hx.mono hB.size)
        replace t0 := cell_later hx t0; replace t1 := cell_later hx t1
        clear hx
        go_wp2_with fail
        refine (vok_any _ _ _ _ _ _ hpv.2).mono ?_
        rintro e w2 ⟨rfl, hx⟩
        replace hB := hB.trans (hx.mono hB.size)
        replace t0 := cell_later hx t0; replace t1 := cell_later hx t1
        replace d0 := cell_later hx d0; replace d1 := cell_later hx d1; replace d2 := cell_later hx d2; replace d3 := cell_later hx d3; replace d4 := cell_later hx d4; replace d5 := cell_later hx d5; replace d6 := cell_later hx d6; replace d7 := cell_later hx d7; replace d8 := cell_later hx d8; replace d9 := cell_later hx d9; replace d10 := cell_later hx d10
        clear hx
        go_wp2_with fail
        go_ret
        exact ⟨by rw [HR.out]; rfl, hB⟩
      replace g3 : (p.val.k == 0) = false := by simpa using g3
      by_cases g4 : p.turn ≤ last
      · have HR : Hid (tokL turns [] ps 0 = false) := by show tokL turns [] ps 0 = false; rw [← HD.out]; simp [Int.not_lt.2 g4]
        clear HD
        go_wp2_with fail
        refine (keyok_any _ _ _ _ _ _ hpk.2 hpk.1).mono ?_
        rintro e w1 ⟨rfl, hx⟩
        obtain ⟨hx, d0, d1, d2, d3, d4, d5, d6, d7, d8, d9, d10⟩ := box11 hx
        replace hB := hB.trans (hx.mono hB.size)
        replace t0 := cell_later hx t0; replace t1 := cell_later hx t1
        clear hx
        go_wp2_with fail
        refine (vok_any _ _ _ _ _ _ hpv.2).mono ?_
        rintro e w2 ⟨rfl, hx⟩
        replace hB := hB.trans (hx.mono hB.size)
        replace t0 := cell_later hx t0; replace t1 := cell_later hx t1
        replace d0 := cell_later hx d0; replace d1 := cell_later hx d1; replace d2 := cell_later hx d2; replace d3 := cell_later hx d3; replace d4 := cell_later hx d4; replace d5 := cell_later hx d5; replace d6 := cell_later hx d6; replace d7 := cell_later hx d7; replace d8 := cell_later hx d8; replace d9 := cell_later hx d9; replace d10 := cell_later hx d10
        clear hx
        go_wp2_with fail
        go_ret
        exact ⟨by rw [HR.out]; rfl, hB⟩
      replace g4 : last < p.turn := by omega
      by_cases g5 : turns < p.turn
      · have HR : Hid (tokL turns [] ps 0 = false) := by show tokL turns [] ps 0 = false; rw [← HD.out]; simp [Int.not_le.2 g5]
        clear HD
        go_wp2_with fail
        refine (keyok_any _ _ _ _ _ _ hpk.2 hpk.1).mono ?_
        rintro e w1 ⟨rfl, hx⟩
        obtain ⟨hx, d0, d1, d2, d3, d4, d5, d6, d7, d8, d9, d10⟩ := box11 hx
        replace hB := hB.trans (hx.mono hB.size)
        replace t0 := cell_later hx t0; replace t1 := cell_later hx t1
        clear hx
        go_wp2_with fail
        refine (vok_any _ _ _ _ _ _ hpv.2).mono ?_
        rintro e w2 ⟨rfl, hx⟩
        replace hB := hB.trans (hx.mono hB.size)
        replace t0 := cell_later hx t0; replace t1 := cell_later hx t1
        replace d0 := cell_later hx d0; replace d1 := cell_later hx d1; replace d2 := cell_later hx d2; replace d3 := cell_later hx d3; replace d4 := cell_later hx d4; replace d5 := cell_later hx d5; replace d6 := cell_later hx d6; replace d7 := cell_later hx d7; replace d8 := cell_later hx d8; replace d9 := cell_later hx d9; replace d10 := cell_later hx d10
        clear hx
        go_wp2_with fail
        go_ret
        exact ⟨by rw [HR.out]; rfl, hB⟩
      replace g5 : p.turn ≤ turns := by omega
      have HE : Hid ((!clash p (ps.take m) && tokL turns (ps.take (m + 1)) (ps.drop (m + 1)) p.turn) = tokL turns [] ps 0) := by
        have q := HD.out
        rw [g1, g2, g3, decide_eq_true g4, decide_eq_true g5] at q
        have q2 : (!clash p (ps.take m) && tokL turns (ps.take (m + 1)) (ps.drop (m + 1)) p.turn) = tokL turns [] ps 0 := by simpa using q
        exact q2
      clear HD
      obtain ⟨wo, rfl⟩ : ∃ wo : World, wo = wr := ⟨_, rfl⟩
      go_wp2_with fail
      refine (keyok_any _ _ _ _ _ _ hpk.2 hpk.1).mono ?_
      rintro e w1 ⟨rfl, hx⟩
      obtain ⟨hx, d0, d1, d2, d3, d4, d5, d6, d7, d8, d9, d10⟩ := box11 hx
      replace hB := hB.trans (hx.mono hB.size)
      replace t0 := cell_later hx t0; replace t1 := cell_later hx t1
      clear hx
      go_wp2_with fail
      refine (vok_any _ _ _ _ _ _ hpv.2).mono ?_
      rintro e w2 ⟨rfl, hx⟩
      replace hB := hB.trans (hx.mono hB.size)
      replace t0 := cell_later hx t0; replace t1 := cell_later hx t1
      replace d0 := cell_later hx d0; replace d1 := cell_later hx d1; replace d2 := cell_later hx d2; replace d3 := cell_later hx d3; replace d4 := cell_later hx d4; replace d5 := cell_later hx d5; replace d6 := cell_later hx d6; replace d7 := cell_later hx d7; replace d8 := cell_later hx d8; replace d9 := cell_later hx d9; replace d10 := cell_later hx d10
      clear hx
      have hPB : PBox w2 wo.heap.size p := ⟨d0, d1, d2, d3, d4, d5, d6, d7, d8, d9, d10⟩
      clear c0 c1 c2 c3 c4 c5 c6 c7 c8 c9 c10
      go_wp2_with fail
      clear d0 d1 d2 d3 d4 d5 d6 d7 d8 d9 d10
      go_loopw [6] (fun j wi => ∃ n : Nat, n ≤ m ∧ j = .int .i64 n ∧ Below w.heap.size w wi ∧ wi.cell? ⟨w.heap.size, 0, none⟩ = some (.slice (some ⟨b, off, none⟩) len cap) ∧ wi.cell? ⟨w.heap.size, 1, none⟩ = some (.int .i64 turns) ∧ PBox wi wo.heap.size p ∧ Hid (clash p (ps.take n) = false)) (fun j _ => m - (intOf j).toNat)
      case atStart => exact ⟨0, Nat.zero_le _, rfl, hB, t0, t1, hPB, rfl⟩
      case round =>
        obtain ⟨n, hn, rfl, hB, t0, t1, hPB, hC⟩ := hrel
        obtain ⟨d0, d1, d2, d3, d4, _⟩ := id hPB
        by_cases k1 : n < m
        · obtain ⟨d, hdn⟩ : ∃ d, ps[n]? = some d := ⟨ps[n]'(by omega), by simp⟩
          have c0 : wr.cell? ⟨b, off + n * 11, none⟩ = some (.int .i64 d.key.k) := cell_later hB (HP.out n d hdn 0 _ rfl)
          have c1 : wr.cell? ⟨b, off + n * 11 + 1, none⟩ = some (.int .i64 d.key.n) := cell_later hB (HP.out n d hdn 1 _ rfl)
          have c2 : wr.cell? ⟨b, off + n * 11 + 2, none⟩ = some (.float .f64 d.key.f) := cell_later hB (HP.out n d hdn 2 _ rfl)
          have c3 : wr.cell? ⟨b, off + n * 11 + 3, none⟩ = some (.string d.key.s) := cell_later hB (HP.out n d hdn 3 _ rfl)
          have c4 : wr.cell? ⟨b, off + n * 11 + 4, none⟩ = some (.int .i64 d.key.r) := cell_later hB (HP.out n d hdn 4 _ rfl)
          have hdk : d.key.ok := (HO.out d (List.mem_of_getElem? hdn)).1
          have HN : Hid (ps[n]? = some d) := hdn
          clear hdn
          by_cases hs : samV d.key.k d.key.n d.key.f d.key.s d.key.r p.key.k p.key.n p.key.f p.key.s p.key.r = true
          · have HR : Hid (tokL turns [] ps 0 = false) := by
              have hcl : clash p (ps.take m) = true := by
                unfold clash
                rw [List.any_eq_true]
                refine ⟨d, ?_, hs⟩
                have := HN.out
                exact List.mem_of_getElem? (i := n) (by rw [List.getElem?_take_of_lt k1]; exact this)
              show tokL turns [] ps 0 = false
              rw [← HE.out, hcl]; rfl
            clear HE
            go_wp2_with fail
            go_region_with (go_at_call 28; refine (ss_any _ _ _ _ _ _ _ _ _ _ _ hdk.2 hpk.2 hdk.1 hpk.1).mono ?_; rintro e w3 ⟨rfl, hx⟩)
            all_goals
              replace hx := und1 hx
              replace hB := hB.trans (hx.mono hB.size)
              clear hx
              go_wp2_with fail
              go_ret
              exact ⟨by rw [HR.out]; rfl, hB⟩
          · have hs' : samV d.key.k d.key.n d.key.f d.key.s d.key.r p.key.k p.key.n p.key.f p.key.s p.key.r = false := by simpa using hs
            have HC : Hid (clash p (ps.take (n + 1)) = false) := by
              show clash p (ps.take (n + 1)) = false
              rw [take_snoc HN.out, clash_snoc, hC.out, hs']; rfl
            clear hs hC
            go_wp2_with fail
            go_region_with (go_at_call 28; refine (ss_any _ _ _ _ _ _ _ _ _ _ _ hdk.2 hpk.2 hdk.1 hpk.1).mono ?_; rintro e w3 ⟨rfl, hx⟩)
            all_goals
              replace hx := und1 hx
              replace hB := hB.trans (hx.mono hB.size)
              replace t0 := cell_later hx t0; replace t1 := cell_later hx t1
              replace hPB := PBox.later hx hPB
              clear hx c0 c1 c2 c3 c4 d0 d1 d2 d3 d4
              go_wp2_with fail
              go_roundw
              case rel => exact ⟨n + 1, by omega, by go_num, hB, t0, t1, hPB, HC⟩
              case measure => simp [intOf]; omega
        · have hnm : n = m := by omega
          have HR : Hid (tokL turns (ps.take (m + 1)) (ps.drop (m + 1)) p.turn = tokL turns [] ps 0) := by
            have q := HE.out
            have hc := hC.out
            rw [hnm] at hc
            rw [hc] at q
            exact q
          clear HE hC hnm
          go_wp2_with fail
          go_roundw
          case rel => exact ⟨m + 1, p.turn, by omega, by go_num, rfl, hB, t0, t1, HR⟩
          case measure => simp [intOf]; omega
    · have HR : Hid (true = tokL turns [] ps 0) := by
        have := hF.out
        rw [List.drop_of_length_le (by omega)] at this
        exact this
      clear hF
      go_wp2_with fail
      go_ret
      exact ⟨by rw [← HR.out]; rfl, hB⟩
end Go.Proofs.Ytkipmogmejfmcaa
