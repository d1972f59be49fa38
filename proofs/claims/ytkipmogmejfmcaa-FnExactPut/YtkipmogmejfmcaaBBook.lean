/-
  OWN WORK. The program's book of a table.
-/
import Derived.Test.YtkipmogmejfmcaaBPok
import Derived.Test.YtkipmogmejfmcaaBAdd
import Derived.Test.YtkipmogmejfmcaaLat
namespace Go.Proofs.Ytkipmogmejfmcaa
open Go.RowKit
attribute [local go_sem] run_store_float
set_option linter.unusedVariables false

set_option maxRecDepth 20000 in
set_option maxHeartbeats 1000000 in
theorem book_len (b off len cap : Nat) (turns : Int) (w : World) (hlen : len ≤ 1048576) (h : 500 < len) :
    Calls Try.prog 79 #[.agg #[.slice (some ⟨b, off, none⟩) len cap, .int .i64 turns]] w fun e w' => e = .returned (.pointer none) ∧ Below w.heap.size w w' := by
  go_enter Try.func79, Try.ntmps79
  go_wp2
  go_ret
  exact ⟨rfl, bw1 _ _⟩

set_option maxRecDepth 20000 in
set_option maxHeartbeats 1000000 in
theorem book_lo (b off len cap : Nat) (turns : Int) (w : World) (hlen : len ≤ 1048576) (h' : len ≤ 500) (h : turns < 0) :
    Calls Try.prog 79 #[.agg #[.slice (some ⟨b, off, none⟩) len cap, .int .i64 turns]] w fun e w' => e = .returned (.pointer none) ∧ Below w.heap.size w w' := by
  go_enter Try.func79, Try.ntmps79
  go_wp2
  go_ret
  exact ⟨rfl, bw1 _ _⟩

set_option maxRecDepth 20000 in
set_option maxHeartbeats 1000000 in
theorem book_hi (b off len cap : Nat) (turns : Int) (w : World) (hlen : len ≤ 1048576) (h' : len ≤ 500) (h'' : 0 ≤ turns) (h : 1000000000000 < turns) :
    Calls Try.prog 79 #[.agg #[.slice (some ⟨b, off, none⟩) len cap, .int .i64 turns]] w fun e w' => e = .returned (.pointer none) ∧ Below w.heap.size w w' := by
  go_enter Try.func79, Try.ntmps79
  go_wp2
  go_ret
  exact ⟨rfl, bw1 _ _⟩

/-- What bookOf leaves. -/
def BOut (w : World) (ps : List PD) (turns : Int) (e : Ending) (w' : World) : Prop :=
  Below w.heap.size w w' ∧ ((tokL turns [] ps 0 = true ∧ ∃ bk lb mb, e = .returned (.pointer (some ⟨bk, 0, none⟩)) ∧ w.heap.size ≤ bk ∧ w.heap.size ≤ lb ∧ w.heap.size ≤ mb ∧ Book w' bk lb mb (ps.length + 1) ps turns) ∨ (tokL turns [] ps 0 = false ∧ e = .returned (.pointer none)))
theorem BOut.bad {w w' : World} {ps : List PD} {turns : Int} (hb : Below w.heap.size w w') (h : Hid (tokL turns [] ps 0 = false)) : BOut w ps turns (.returned (.pointer none)) w' := ⟨hb, .inr ⟨h.out, rfl⟩⟩

theorem book_start {w : World} {bk lb mb n : Nat} {arr : Array Value} {turns : Int} (h1 : w.heap[bk]? = some (.cells #[.slice (some ⟨lb, 0, none⟩) 0 n, .map (some mb), .int .i64 turns] 120)) (h2 : w.heap[lb]? = some (.cells arr 60)) (h3 : arr.size = n * 11) (h4 : w.heap[mb]? = some (.map #[] 0)) (n1 : bk ≠ lb) (n2 : bk ≠ mb) (n3 : lb ≠ mb) : Book w bk lb mb n [] turns :=
  ⟨h1, ⟨arr, h2, h3, fun i q hi => absurd hi (Nat.not_lt_zero _)⟩, ⟨#[], 0, h4, rfl, fun j p e hp => by simp at hp⟩, n1, n2, n3⟩

theorem eidx_clash {p : PD} (ds : List PD) (i : Nat) (hpf : p.key.f < 18446744073709551616) (hpk : p.key.kk = true) (hds : ∀ d ∈ ds, d.key.f < 18446744073709551616 ∧ d.key.kk = true) : decide (eidx p.key ds i < 0) = !clash p ds := by
  induction ds generalizing i with
  | nil => rfl
  | cons d ds ih =>
    have hd := hds d (by simp)
    have he : eqb p.key d.key = samV d.key.k d.key.n d.key.f d.key.s d.key.r p.key.k p.key.n p.key.f p.key.s p.key.r := eqb_sam hpf hd.1 hpk hd.2
    unfold eidx clash
    rw [List.any_cons, ← he]
    by_cases hb : eqb p.key d.key = true
    · rw [if_pos hb, hb]; simp
    · rw [if_neg hb]
      have hb' : eqb p.key d.key = false := by simpa using hb
      rw [hb', Bool.false_or]
      exact ih (i + 1) (fun d' hd' => hds d' (by simp [hd']))

set_option maxRecDepth 20000 in
set_option maxHeartbeats 4000000 in
theorem book_loop (b off len cap : Nat) (ps : List PD) (turns : Int) (w : World) (hl : ps.length = len) (hp : PAt w b off ps) (hlen : len ≤ 500) (ht1 : 0 ≤ turns) (ht2 : turns ≤ 1000000000000) (hok : ∀ p ∈ ps, p.ok) :
    Calls Try.prog 79 #[.agg #[.slice (some ⟨b, off, none⟩) len cap, .int .i64 turns]] w fun e w' => BOut w ps turns e w' := by
  have HP : Hid (PAt w b off ps) := hp
  have HO : Hid (∀ p ∈ ps, p.ok) := hok
  clear hp hok
  go_enter Try.func79, Try.ntmps79
  go_wp2_with fail
  refine (newbook_any (len + 1) (by omega) turns _).mono ?_
  rintro e w1 ⟨bk, lb, mb, arr, rfl, g1, g2, g3, n3, n1, n2, h1, h2, h3, h4, hx⟩
  have t0 : w1.cell? ⟨w.heap.size, 0, none⟩ = some (.slice (some ⟨b, off, none⟩) len cap) := by rw [hx.cell (by simp)]; simp [go_sem]
  have t1 : w1.cell? ⟨w.heap.size, 1, none⟩ = some (.int .i64 turns) := by rw [hx.cell (by simp)]; simp [go_sem]
  have hb := (bw1 _ _).trans (hx.mono (by simp))
  have HB : Hid (Book w1 bk lb mb (len + 1) [] turns) := book_start h1 h2 h3 h4 n1 n2 n3
  have G1 : w.heap.size + 1 ≤ bk := by simpa using g1
  have G2 : w.heap.size + 1 ≤ lb := by simpa using g2
  have G3 : w.heap.size + 1 ≤ mb := by simpa using g3
  clear hx h1 h2 h3 h4 g1 g2 g3
  go_wp2_with fail
  go_loopw [4, 31] (fun la c wr => ∃ (m : Nat) (last : Int), m ≤ len ∧ c = .int .i64 m ∧ la = .int .i64 last ∧ Below w.heap.size w wr ∧ wr.cell? ⟨w.heap.size, 0, none⟩ = some (.slice (some ⟨b, off, none⟩) len cap) ∧ wr.cell? ⟨w.heap.size, 1, none⟩ = some (.int .i64 turns) ∧ Hid (Book wr bk lb mb (len + 1) (ps.take m) turns) ∧ Hid (tokL turns (ps.take m) (ps.drop m) last = tokL turns [] ps 0) ∧ Hid (∀ d ∈ ps.take m, d.key.kk = true)) (fun _ c _ => len - (intOf c).toNat)
  case atStart => exact ⟨0, 0, Nat.zero_le _, rfl, rfl, hb, t0, t1, HB, rfl, fun d hd => by simp at hd⟩
  case round =>
    clear t0 t1 HB
    obtain ⟨m, last, hm, rfl, rfl, hB, t0, t1, HB, hF, hK⟩ := hrel
    by_cases k1 : m < len
    · obtain ⟨p, hpm⟩ : ∃ p, ps[m]? = some p := ⟨ps[m]'(by omega), by simp⟩
      have c0 : wr.cell? ⟨b, off + m * 11, none⟩ = some (.int .i64 p.key.k) := cell_later hB (HP.out m p hpm 0 _ rfl)
      have c1 : wr.cell? ⟨b, off + m * 11 + 1, none⟩ = some (.int .i64 p.key.n) := cell_later hB (HP.out m p hpm 1 _ rfl)
      have c2 : wr.cell? ⟨b, off + m * 11 + 2, none⟩ = some (.float .f64 p.key.f) := cell_later hB (HP.out m p hpm 2 _ rfl)
      have c3 : wr.cell? ⟨b, off + m * 11 + 3, none⟩ = some (.string p.key.s) := cell_later hB (HP.out m p hpm 3 _ rfl)
      have c4 : wr.cell? ⟨b, off + m * 11 + 4, none⟩ = some (.int .i64 p.key.r) := cell_later hB (HP.out m p hpm 4 _ rfl)
      have c5 : wr.cell? ⟨b, off + m * 11 + 5, none⟩ = some (.int .i64 p.val.k) := cell_later hB (HP.out m p hpm 5 _ rfl)
      have c6 : wr.cell? ⟨b, off + m * 11 + 6, none⟩ = some (.int .i64 p.val.n) := cell_later hB (HP.out m p hpm 6 _ rfl)
      have c7 : wr.cell? ⟨b, off + m * 11 + 7, none⟩ = some (.float .f64 p.val.f) := cell_later hB (HP.out m p hpm 7 _ rfl)
      have c8 : wr.cell? ⟨b, off + m * 11 + 8, none⟩ = some (.string p.val.s) := cell_later hB (HP.out m p hpm 8 _ rfl)
      have c9 : wr.cell? ⟨b, off + m * 11 + 9, none⟩ = some (.int .i64 p.val.r) := cell_later hB (HP.out m p hpm 9 _ rfl)
      have c10 : wr.cell? ⟨b, off + m * 11 + 10, none⟩ = some (.int .i64 p.turn) := cell_later hB (HP.out m p hpm 10 _ rfl)
      obtain ⟨hpk, hpv, hpt1, hpt2⟩ := HO.out p (List.mem_of_getElem? hpm)
      have HD : Hid ((p.key.kk && vok p.val.k p.val.n p.val.f p.val.s p.val.r && !(p.val.k == 0) && decide (last < p.turn) && decide (p.turn ≤ turns) && !clash p (ps.take m) && tokL turns (ps.take (m + 1)) (ps.drop (m + 1)) p.turn) = tokL turns [] ps 0) := by
        have := hF.out; rw [drop_snoc hpm] at this; rw [take_snoc hpm]; exact this
      have HM : Hid (ps[m]? = some p) := hpm
      clear hF hpm
      obtain ⟨w2, hw, hy, hpb⟩ := boxp wr p 60
      have HPB : Hid (PBox w2 wr.heap.size p) := hpb
      obtain ⟨d0, d1, d2, d3, d4, d5, d6, d7, d8, d9, d10⟩ := hpb
      have u0 := cell_later hy t0
      have u1 := cell_later hy t1
      have HB2 : Hid (Book w2 bk lb mb (len + 1) (ps.take m) turns) := HB.out.later hy
      by_cases g4 : p.turn ≤ last
      · have HR : Hid (tokL turns [] ps 0 = false) := by show tokL turns [] ps 0 = false; rw [← HD.out]; simp [Int.not_lt.2 g4]
        clear HD
        have g4' : decide (p.turn ≤ last) = true := by simpa using g4
        go_wp2_with fail
        rw [← hw]; clear hw
        go_quiet (fail)
        go_wp2_with fail
        go_ret
        exact BOut.bad (hB.trans ((hy.trans (below_draw _ _ _)).mono hB.size)) HR
      have g4' : decide (p.turn ≤ last) = false := by simpa using g4
      by_cases g5 : turns < p.turn
      · have HR : Hid (tokL turns [] ps 0 = false) := by show tokL turns [] ps 0 = false; rw [← HD.out]; simp [Int.not_le.2 g5]
        clear HD
        have g5' : decide (turns < p.turn) = true := by simpa using g5
        go_wp2_with fail
        rw [← hw]; clear hw
        go_quiet (fail)
        go_wp2_with fail
        go_ret
        exact BOut.bad (hB.trans ((hy.trans (below_draw _ _ _)).mono hB.size)) HR
      have g5' : decide (turns < p.turn) = false := by simpa using g5
      by_cases g6 : p.pok = false
      · have HR : Hid (tokL turns [] ps 0 = false) := by show tokL turns [] ps 0 = false; rw [← HD.out]; have g6' := g6; unfold PD.pok at g6'; rw [g6']; rfl
        clear HD
        go_wp2_with fail
        rw [← hw]; clear hw
        have e0 := lat_cell d0; have e1 := lat_cell d1; have e2 := lat_cell d2; have e3 := lat_cell d3; have e4 := lat_cell d4; have e5 := lat_cell d5; have e6 := lat_cell d6; have e7 := lat_cell d7; have e8 := lat_cell d8; have e9 := lat_cell d9; have e10 := lat_cell d10; have v1 := lat_cell u1
        haveI := lat_some w2
        refine wp_region_lat (by kernel_rfl) (by kernel_rfl) ?_
        repeat (go_big_quiet_step (refine lat_calls (pok_any p _ hpk)))
        refine wpQuiet_nil ?_
        rintro _ ⟨nq, rfl⟩
        go_wp2_with fail
        go_ret
        exact BOut.bad (hB.trans ((hy.trans (nq.below.mono hy.size)).mono hB.size)) HR
      replace g6 : p.pok = true := by simpa using g6
      have HKP : Hid (p.key.kk = true) := by have h := g6; unfold PD.pok at h; simp only [Bool.and_eq_true] at h; exact h.1.1
      have HDK : Hid (∀ d ∈ ps.take m, d.key.f < 18446744073709551616 ∧ d.key.kk = true) := fun d hd => ⟨(HO.out d (List.mem_of_mem_take hd)).1.1, hK.out d hd⟩
      have hcl := eidx_clash (ps.take m) 0 hpk.1 HKP.out HDK.out
      by_cases g7 : 0 ≤ eidx p.key (ps.take m) 0
      · have HR : Hid (tokL turns [] ps 0 = false) := by
          show tokL turns [] ps 0 = false
          have h1 : decide (eidx p.key (ps.take m) 0 < 0) = false := by simpa using g7
          rw [h1] at hcl
          rw [← HD.out, ← hcl]; simp
        clear HD hcl
        have g7' : decide (0 ≤ eidx p.key (ps.take m) 0) = true := by simpa using g7
        go_wp2_with fail
        rw [← hw]; clear hw
        have e0 := lat_cell d0; have e1 := lat_cell d1; have e2 := lat_cell d2; have e3 := lat_cell d3; have e4 := lat_cell d4; have e5 := lat_cell d5; have e6 := lat_cell d6; have e7 := lat_cell d7; have e8 := lat_cell d8; have e9 := lat_cell d9; have e10 := lat_cell d10; have v1 := lat_cell u1
        have HL : ∀ x : Lat w2, Hid (MapAt x.wd mb (ps.take m)) := fun x => HB2.out.map.later x.below
        have HC1 : ∀ x : Lat w2, x.wd.cell? ⟨bk, 1, none⟩ = some (.map (some mb)) := lat_cell (by rw [blk_cell HB2.out.head]; rfl)
        haveI := lat_some w2
        refine wp_region_lat (by kernel_rfl) (by kernel_rfl) ?_
        repeat (go_big_quiet_step (first | (go_at_call 107; refine lat_calls (pok_any p _ hpk)) | (go_at_call 108; refine lat_calls (find_any p.key bk mb (ps.take m) _ (HL _).out (HC1 _)))))
        refine wpQuiet_nil ?_
        rintro _ ⟨nq, rfl⟩
        go_wp2_with fail
        go_ret
        exact BOut.bad (hB.trans ((hy.trans (nq.below.mono hy.size)).mono hB.size)) HR
      have HR : Hid (tokL turns (ps.take (m + 1)) (ps.drop (m + 1)) p.turn = tokL turns [] ps 0) := by
        have h1 : decide (eidx p.key (ps.take m) 0 < 0) = true := by simp; omega
        rw [h1] at hcl
        have hp' := g6
        unfold PD.pok at hp'
        show tokL turns (ps.take (m + 1)) (ps.drop (m + 1)) p.turn = tokL turns [] ps 0
        have hl1 : decide (last < p.turn) = true := by simp; omega
        have hl2 : decide (p.turn ≤ turns) = true := by simp; omega
        rw [← HD.out, hp', hl1, hl2, ← hcl]; rfl
      clear HD hcl
      have g7' : decide (0 ≤ eidx p.key (ps.take m) 0) = false := by simpa using g7
      have H7 : Hid (eidx p.key (ps.take m) 0 < 0) := by show eidx p.key (ps.take m) 0 < 0; omega
      go_wp2_with fail
      rw [← hw]; clear hw
      have e0 := lat_cell d0; have e1 := lat_cell d1; have e2 := lat_cell d2; have e3 := lat_cell d3; have e4 := lat_cell d4; have e5 := lat_cell d5; have e6 := lat_cell d6; have e7 := lat_cell d7; have e8 := lat_cell d8; have e9 := lat_cell d9; have e10 := lat_cell d10; have v1 := lat_cell u1
      have HL : ∀ x : Lat w2, Hid (MapAt x.wd mb (ps.take m)) := fun x => HB2.out.map.later x.below
      have HC1 : ∀ x : Lat w2, x.wd.cell? ⟨bk, 1, none⟩ = some (.map (some mb)) := lat_cell (by rw [blk_cell HB2.out.head]; rfl)
      haveI := lat_some w2
      refine wp_region_lat (by kernel_rfl) (by kernel_rfl) ?_
      repeat (go_big_quiet_step (first | (go_at_call 107; refine lat_calls (pok_any p _ hpk)) | (go_at_call 108; refine lat_calls (find_any p.key bk mb (ps.take m) _ (HL _).out (HC1 _)))))
      refine wpQuiet_nil ?_
      rintro _ ⟨nq, rfl⟩
      obtain ⟨w3, hw3⟩ : ∃ w3, w3 = nq.wd := ⟨_, rfl⟩
      have hb3 : Below w2.heap.size w2 w3 := by rw [hw3]; exact nq.below
      rw [← hw3]
      clear hw3 HL HC1 e0 e1 e2 e3 e4 e5 e6 e7 e8 e9 e10 v1
      clear c0 c1 c2 c3 c4 c5 c6 c7 c8 c9 c10
      have HB3 : Hid (Book w3 bk lb mb (len + 1) (ps.take m) turns) := HB2.out.later hb3
      have HP3 : Hid (PBox w3 wr.heap.size p) := HPB.out.later hb3
      have hy3 := hy.trans (hb3.mono hy.size)
      clear d0 d1 d2 d3 d4 d5 d6 d7 d8 d9 d10 u0 u1
      obtain ⟨d0, d1, d2, d3, d4, d5, d6, d7, d8, d9, d10⟩ := HP3.out
      have l1 := (Array.getElem?_eq_some_iff.1 HB.out.head).1
      obtain ⟨_, hlb, _, _⟩ := id HB.out.row
      have l2 := (Array.getElem?_eq_some_iff.1 hlb).1
      obtain ⟨_, _, hmb, _⟩ := id HB.out.map
      have l3 := (Array.getElem?_eq_some_iff.1 hmb).1
      clear hlb hmb
      have HT0 : Hid (w3.cell? ⟨w.heap.size, 0, none⟩ = some (.slice (some ⟨b, off, none⟩) len cap)) := cell_later hy3 t0
      have HT1 : Hid (w3.cell? ⟨w.heap.size, 1, none⟩ = some (.int .i64 turns)) := cell_later hy3 t1
      go_wp2_with fail
      go_region_with (go_at_call 109; refine (add_any p bk lb mb (len + 1) (ps.take m) turns _ (HB3.out.later (Below.refl _ _).drew) (by rw [List.length_take]; omega) H7.out (by omega)).mono ?_; rintro e w4 ⟨rfl, hK4, hT⟩; have HK4 : Hid (Book w4 bk lb mb (len + 1) (ps.take m ++ [p]) turns) := hK4; have HT4 : Hid (Bt [bk, lb, mb] w3 w4) := ((Bt.refl _ _).drew).trans hT; clear hK4 hT)
      all_goals
        have f10 := HT4.out.cell (p := ⟨wr.heap.size, 10, none⟩) (by simp; omega) d10
        clear d0 d1 d2 d3 d4 d5 d6 d7 d8 d9 d10
        go_wp2_with fail
        go_roundw
        case rel =>
          have hw3 := hy3.size
          have hwr := hB.size
          refine ⟨m + 1, p.turn, by omega, by go_num, rfl, (hB.trans (hy3.mono hB.size)).trans (HT4.out.below (by omega) (by simp; omega)), HT4.out.cell (by simp; omega) HT0.out, HT4.out.cell (by simp; omega) HT1.out, ?_, HR, ?_⟩
          · have := HK4.out; rw [← take_snoc HM.out] at this; exact this
          · intro d hd
            rw [take_snoc HM.out] at hd
            rcases List.mem_append.1 hd with hd | hd
            · exact hK.out d hd
            · simp at hd; subst hd; exact HKP.out
        case measure => simp [intOf]; omega
    · have hml : m = len := by omega
      have HR : Hid (tokL turns [] ps 0 = true) := by
        have := hF.out
        rw [List.drop_of_length_le (by omega)] at this
        rw [← this]; rfl
      have HBe : Hid (Book wr bk lb mb (len + 1) ps turns) := by have := HB.out; rw [List.take_of_length_le (by omega)] at this; exact this
      clear hF HB hml
      go_wp2_with fail
      go_ret
      exact ⟨hB, .inl ⟨HR.out, bk, lb, mb, rfl, by omega, by omega, by omega, by rw [hl]; exact HBe.out⟩⟩

theorem tokV_of {ps : List PD} {turns : Int} (h1 : ps.length ≤ 500) (h2 : 0 ≤ turns) (h3 : turns ≤ 1000000000000) : tokV ps turns = tokL turns [] ps 0 := by
  unfold tokV
  rw [decide_eq_true h1, decide_eq_true h2, decide_eq_true h3]; rfl

/-- What bookOf leaves, of whatever table. -/
def BkOut (w : World) (ps : List PD) (turns : Int) (e : Ending) (w' : World) : Prop :=
  Below w.heap.size w w' ∧ ((tokV ps turns = true ∧ ∃ bk lb mb, e = .returned (.pointer (some ⟨bk, 0, none⟩)) ∧ w.heap.size ≤ bk ∧ w.heap.size ≤ lb ∧ w.heap.size ≤ mb ∧ Book w' bk lb mb (ps.length + 1) ps turns) ∨ (tokV ps turns = false ∧ e = .returned (.pointer none)))

theorem book_any (b off len cap : Nat) (ps : List PD) (turns : Int) (w : World) (hl : ps.length = len) (hp : PAt w b off ps) (hlen : len ≤ 1048576) (hok : ∀ p ∈ ps, p.ok) :
    Calls Try.prog 79 #[.agg #[.slice (some ⟨b, off, none⟩) len cap, .int .i64 turns]] w fun e w' => BkOut w ps turns e w' := by
  by_cases h1 : 500 < len
  · refine (book_len b off len cap turns w hlen h1).mono ?_
    rintro e w' ⟨rfl, hb⟩
    refine ⟨hb, .inr ⟨?_, rfl⟩⟩
    unfold tokV
    rw [decide_eq_false (by omega)]; rfl
  · by_cases h2 : turns < 0
    · refine (book_lo b off len cap turns w hlen (by omega) h2).mono ?_
      rintro e w' ⟨rfl, hb⟩
      refine ⟨hb, .inr ⟨?_, rfl⟩⟩
      unfold tokV
      rw [decide_eq_false (p := 0 ≤ turns) (by omega)]; simp
    · by_cases h3 : 1000000000000 < turns
      · refine (book_hi b off len cap turns w hlen (by omega) (by omega) h3).mono ?_
        rintro e w' ⟨rfl, hb⟩
        refine ⟨hb, .inr ⟨?_, rfl⟩⟩
        unfold tokV
        rw [decide_eq_false (p := turns ≤ 1000000000000) (by omega)]; simp
      · refine (book_loop b off len cap ps turns w hl hp (by omega) (by omega) (by omega) hok).mono ?_
        rintro e w' ⟨hb, h⟩
        unfold BkOut
        rw [tokV_of (by omega) (by omega) (by omega)]
        exact ⟨hb, h⟩

set_option maxRecDepth 20000 in
set_option maxHeartbeats 1000000 in
theorem itok_any (b off len cap : Nat) (ps : List PD) (turns : Int) (w : World) (hl : ps.length = len) (hp : PAt w b off ps) (hlen : len ≤ 1048576) (hok : ∀ p ∈ ps, p.ok) :
    Calls Try.prog 38 #[.agg #[.slice (some ⟨b, off, none⟩) len cap, .int .i64 turns]] w fun e w' => e = .returned (.bool (tokV ps turns)) ∧ Below w.heap.size w w' := by
  have HP : Hid (PAt w b off ps) := hp
  clear hp
  go_enter Try.func38, Try.ntmps38
  go_wp2_with fail
  refine (book_any b off len cap ps turns _ hl (by exact HP.out.later (bw1 _ _)) hlen hok).mono ?_
  rintro e w1 ⟨hx, ⟨ht, bk, lb, mb, rfl, -⟩ | ⟨ht, rfl⟩⟩
  · have hb := (bw1 _ _).trans (hx.mono (by simp))
    go_wp2_with fail
    go_ret
    exact ⟨by rw [ht]; rfl, hb⟩
  · have hb := (bw1 _ _).trans (hx.mono (by simp))
    go_wp2_with fail
    go_ret
    exact ⟨by rw [ht]; rfl, hb⟩
end Go.Proofs.Ytkipmogmejfmcaa
