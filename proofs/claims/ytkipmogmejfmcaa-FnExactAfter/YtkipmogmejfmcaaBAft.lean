/-
  OWN WORK. After of the program, whole.
-/
import Derived.Test.YtkipmogmejfmcaaBIter
import Derived.Test.YtkipmogmejfmcaaBGetW
namespace Go.Proofs.Ytkipmogmejfmcaa
open Go.RowKit Go.Shelf
attribute [local go_sem] run_store_float Oper.semAt_some
set_option linter.unusedVariables false

set_option maxRecDepth 20000 in
set_option maxHeartbeats 400000 in
theorem after_any (bk : Nat) (turn : Int) (w : World) : Calls Try.prog 82 #[.pointer (some ⟨bk, 0, none⟩), .int .i64 turn] w fun e w' => e = .returned (.func (.func 110) #[] #[.pointer (some ⟨w.heap.size, 0, none⟩), .pointer (some ⟨w.heap.size + 1, 0, none⟩)]) ∧ w'.cell? ⟨w.heap.size, 0, none⟩ = some (.pointer (some ⟨bk, 0, none⟩)) ∧ w'.cell? ⟨w.heap.size + 1, 0, none⟩ = some (.int .i64 turn) ∧ w'.heap.size = w.heap.size + 2 ∧ Below w.heap.size w w' := by
  go_enter Try.func82, Try.ntmps82
  go_wp2
  go_ret
  exact ⟨rfl, by simp [go_sem], by simp [go_sem], by simp, bw2 _ _ _⟩

set_option maxRecDepth 20000 in
set_option maxHeartbeats 1000000 in
theorem iaft_bad (b off len cap : Nat) (ps : List PD) (turns turn : Int) (w : World) (hl : ps.length = len) (hp : PAt w b off ps) (hlen : len ≤ 1048576) (hok : ∀ p ∈ ps, p.ok) (ht : tokV ps turns = false) :
    Calls Try.prog 41 #[.agg #[.slice (some ⟨b, off, none⟩) len cap, .int .i64 turns], .int .i64 turn] w fun e w' => e = .returned (FV false pd0) ∧ Below w.heap.size w w' := by
  have HP : Hid (PAt w b off ps) := hp
  clear hp
  go_enter Try.func41, Try.ntmps41
  go_wp2_with fail
  refine (book_no b off len cap ps turns _ hl (by exact HP.out.later (bw2 _ _ _)) hlen hok ht).mono ?_
  rintro e w1 ⟨rfl, hx⟩
  obtain ⟨h0, h1⟩ := heap2 w (.cells #[.slice (some ⟨b, off, none⟩) len cap, .int .i64 turns] 55) (.cells #[.bool false, .int .i64 0, .int .i64 0, .float .f64 0, .string ⟨#[]⟩, .int .i64 0, .int .i64 0, .int .i64 0, .float .f64 0, .string ⟨#[]⟩, .int .i64 0, .int .i64 0] 62)
  have sl : Slot12 w1 (w.heap.size + 1) := ⟨_, _, (hx.block (w.heap.size + 1) (by simp)).trans h1, rfl⟩
  have hb := (bw2 _ _ _).trans (hx.mono (by simp; omega))
  clear hx h0 h1
  obtain ⟨v0, v1, v2, v3, v4, v5, v6, v7, v8, v9, v10, v11, d0, d1, d2, d3, d4, d5, d6, d7, d8, d9, d10, d11, z, hz⟩ := sl.cells
  go_wp2_with fail
  exact bodyPost_ret (v := FV false pd0) (by simp [results, Try.results41, go_sem, d0, d1, d2, d3, d4, d5, d6, d7, d8, d9, d10, d11, pd0]) rfl ⟨rfl, below12 hb (by omega) _ _ _ _ _ _ _ _ _ _ _ _⟩

/-- An answer of After, as a block. -/
abbrev FO (f : Bool) (p : PD) : Obj := .cells #[.bool f, .int .i64 p.key.k, .int .i64 p.key.n, .float .f64 p.key.f, .string p.key.s, .int .i64 p.key.r, .int .i64 p.val.k, .int .i64 p.val.n, .float .f64 p.val.f, .string p.val.s, .int .i64 p.val.r, .int .i64 p.turn] 62
/-- A pair, as a block. -/
abbrev PO (p : PD) : Obj := .cells #[.int .i64 p.key.k, .int .i64 p.key.n, .float .f64 p.key.f, .string p.key.s, .int .i64 p.key.r, .int .i64 p.val.k, .int .i64 p.val.n, .float .f64 p.val.f, .string p.val.s, .int .i64 p.val.r, .int .i64 p.turn] 60

/-- Twelve cells are written. -/
abbrev set12 (w : World) (g : Nat) (f : Bool) (p : PD) : World := ((((((((((((w.setCell ⟨g, 0, none⟩ (.bool f)).setCell ⟨g, 1, none⟩ (.int .i64 p.key.k)).setCell ⟨g, 2, none⟩ (.int .i64 p.key.n)).setCell ⟨g, 3, none⟩ (.float .f64 p.key.f)).setCell ⟨g, 4, none⟩ (.string p.key.s)).setCell ⟨g, 5, none⟩ (.int .i64 p.key.r)).setCell ⟨g, 6, none⟩ (.int .i64 p.val.k)).setCell ⟨g, 7, none⟩ (.int .i64 p.val.n)).setCell ⟨g, 8, none⟩ (.float .f64 p.val.f)).setCell ⟨g, 9, none⟩ (.string p.val.s)).setCell ⟨g, 10, none⟩ (.int .i64 p.val.r)).setCell ⟨g, 11, none⟩ (.int .i64 p.turn))

theorem set12_block {w : World} {g : Nat} {f0 : Bool} {p0 : PD} (h : w.heap[g]? = some (FO f0 p0)) (f : Bool) (p : PD) : (set12 w g f p).heap[g]? = some (FO f p) := by
  have hb := blk_set (blk_set (blk_set (blk_set (blk_set (blk_set (blk_set (blk_set (blk_set (blk_set (blk_set (blk_set h 0 (.bool f)) 1 (.int .i64 p.key.k)) 2 (.int .i64 p.key.n)) 3 (.float .f64 p.key.f)) 4 (.string p.key.s)) 5 (.int .i64 p.key.r)) 6 (.int .i64 p.val.k)) 7 (.int .i64 p.val.n)) 8 (.float .f64 p.val.f)) 9 (.string p.val.s)) 10 (.int .i64 p.val.r)) 11 (.int .i64 p.turn)
  rw [hb]
  simp
theorem set12_bt (w : World) (g : Nat) (f : Bool) (p : PD) : Bt [g] w (set12 w g f p) :=
  ((((((((((((Bt.refl [g] w).setCell (p := ⟨g, 0, none⟩) (by simp) _).setCell (p := ⟨g, 1, none⟩) (by simp) _).setCell (p := ⟨g, 2, none⟩) (by simp) _).setCell (p := ⟨g, 3, none⟩) (by simp) _).setCell (p := ⟨g, 4, none⟩) (by simp) _).setCell (p := ⟨g, 5, none⟩) (by simp) _).setCell (p := ⟨g, 6, none⟩) (by simp) _).setCell (p := ⟨g, 7, none⟩) (by simp) _).setCell (p := ⟨g, 8, none⟩) (by simp) _).setCell (p := ⟨g, 9, none⟩) (by simp) _).setCell (p := ⟨g, 10, none⟩) (by simp) _).setCell (p := ⟨g, 11, none⟩) (by simp) _
theorem set12_keeps (w : World) (g : Nat) (f : Bool) (p : PD) : KeepsOthers w (set12 w g f p) :=
  (((((((((((KeepsOthers.setCell w ⟨g, 0, none⟩ _).trans (KeepsOthers.setCell _ ⟨g, 1, none⟩ _)).trans (KeepsOthers.setCell _ ⟨g, 2, none⟩ _)).trans (KeepsOthers.setCell _ ⟨g, 3, none⟩ _)).trans (KeepsOthers.setCell _ ⟨g, 4, none⟩ _)).trans (KeepsOthers.setCell _ ⟨g, 5, none⟩ _)).trans (KeepsOthers.setCell _ ⟨g, 6, none⟩ _)).trans (KeepsOthers.setCell _ ⟨g, 7, none⟩ _)).trans (KeepsOthers.setCell _ ⟨g, 8, none⟩ _)).trans (KeepsOthers.setCell _ ⟨g, 9, none⟩ _)).trans (KeepsOthers.setCell _ ⟨g, 10, none⟩ _)).trans (KeepsOthers.setCell _ ⟨g, 11, none⟩ _)

theorem book_lt2 {w : World} {bk lb mb cap : Nat} {ds : List PD} {turns : Int} (h : Book w bk lb mb cap ds turns) : lb < w.heap.size := by
  obtain ⟨h1, ⟨ar, h2, h3, h4⟩, _, m1, m2, m3⟩ := h
  exact (Array.getElem?_eq_some_iff.1 h2).1

theorem split_ex {turn : Int} : ∀ {ps : List PD}, Up ps → ∃ m, Split ps turn m := by
  intro ps
  induction ps with
  | nil => intro _; exact ⟨0, Nat.le_refl _, fun i p hi => absurd hi (Nat.not_lt_zero _), fun i p _ h => by simp at h⟩
  | cons d ps ih =>
    intro hU
    by_cases h : d.turn ≤ turn
    · obtain ⟨m, h0, h1, h2⟩ := ih (fun i j p q hij hp hq => hU (i + 1) (j + 1) p q (by omega) (by simpa using hp) (by simpa using hq))
      refine ⟨m + 1, by simp; omega, ?_, ?_⟩
      · intro i p hi hp
        cases i with
        | zero => simp at hp; subst hp; exact h
        | succ i => exact h1 i p (by omega) (by simpa using hp)
      · intro i p hi hp
        cases i with
        | zero => omega
        | succ i => exact h2 i p (by omega) (by simpa using hp)
    · refine ⟨0, Nat.zero_le _, fun i p hi => absurd hi (Nat.not_lt_zero _), ?_⟩
      intro i p _ hp
      have := hU 0 i d p (Nat.zero_le _) rfl hp
      omega

set_option maxRecDepth 100000 in
set_option maxHeartbeats 4000000 in
theorem iaft_ok (b off len cap : Nat) (ps : List PD) (turns turn : Int) (w : World) (hl : ps.length = len) (hp : PAt w b off ps) (hlen : len ≤ 1048576) (hok : ∀ p ∈ ps, p.ok) (ht : tokV ps turns = true) :
    Calls Try.prog 41 #[.agg #[.slice (some ⟨b, off, none⟩) len cap, .int .i64 turns], .int .i64 turn] w fun e w' => e = .returned (FV (aft turn ps).isSome ((aft turn ps).getD pd0)) ∧ Below w.heap.size w w' := by
  have HP : Hid (PAt w b off ps) := hp
  have HT : Hid (tokV ps turns = true) := ht
  clear hp ht
  refine (callsIn_wide (n := 5)).1 ?_
  refine callsIn_of_wp_marks Try.func41 rfl trivial ?_ rfl
  simp only [Try.ntmps41, List.size_toArray, List.length_cons, List.length_nil, Nat.reduceAdd, Nat.reduceSub, Array.replicate_succ, Array.replicate_zero, List.push_toArray, List.append_toArray, List.nil_append, List.cons_append]
  gi_wp2_with fail
  refine ⟨trivial, (callsIn_wide.2 (book_yes b off len cap ps turns _ hl (by exact HP.out.later (bw2 _ _ _)) hlen hok HT.out)).mono ?_⟩
  rintro e w1 ⟨bk, lb, mb, rfl, hgs, hBk, hx⟩
  obtain ⟨h0, h1⟩ := heap2 w (.cells #[.slice (some ⟨b, off, none⟩) len cap, .int .i64 turns] 55) (.cells #[.bool false, .int .i64 0, .int .i64 0, .float .f64 0, .string ⟨#[]⟩, .int .i64 0, .int .i64 0, .int .i64 0, .float .f64 0, .string ⟨#[]⟩, .int .i64 0, .int .i64 0] 62)
  have HSl : Hid (w1.heap[w.heap.size + 1]? = some (.cells #[.bool false, .int .i64 0, .int .i64 0, .float .f64 0, .string ⟨#[]⟩, .int .i64 0, .int .i64 0, .int .i64 0, .float .f64 0, .string ⟨#[]⟩, .int .i64 0, .int .i64 0] 62)) := (hx.block (w.heap.size + 1) (by simp)).trans h1
  have hb := (bw2 _ _ _).trans (hx.mono (by simp; omega))
  have HB : Hid (Book w1 bk lb mb (ps.length + 1) ps turns) := hBk
  clear hx h0 h1 hgs hBk
  gi_wp2_with fail
  refine ⟨trivial, (callsIn_wide.2 (after_any bk turn _)).mono ?_⟩
  rintro e W0 ⟨rfl, b0, b1, hsz, hx⟩
  gi_wp2_with fail
  obtain ⟨m, hS⟩ := split_ex (turn := turn) (tokV_up HT.out)
  have ha : aft turn ps = ps[m]? := split_aft hS
  have HS0 : W0.heap[w.heap.size + 1]? = some (FO false pd0) := (hx.block _ (Array.getElem?_eq_some_iff.1 HSl.out).1).trans HSl.out
  have hR := (Array.getElem?_eq_some_iff.1 HSl.out).1
  have HB0 := HB.out.later hx
  have hlb := (book_lt2 HB.out)
  have hbW : Below w.heap.size w W0 := hb.trans (hx.mono hb.size)
  have hws := hbW.size
  refine wpIn_rangeFunc_ownH (F := Fence.wide) (n := 5) (α := PD) rfl (by omega) (gf := 110) (lb := #[.pointer (some ⟨w1.heap.size, 0, none⟩), .pointer (some ⟨w1.heap.size + 1, 0, none⟩)]) rfl trivial (enters_of Try.func110 (by kernel_rfl) rfl)
    (encs := fun p => #[PVal p]) (Kp := Below W0.heap.size) (S := fun xs => xs = ps.drop m) (Sp := fun pre => pre <+: ps.drop m) (N := (ps.drop m).length) (w0 := W0)
    (fun l J Jx W hW hJ hJx hY h0 => iter_in (5 - 1) l w1.heap.size (w1.heap.size + 1) bk lb mb m W0.heap.size ps turns turn J Jx (by omega) (by omega) hS (tokV_up HT.out) hY W hJ (cell_later hW b0) (cell_later hW b1) (HB0.later hW) (by omega) (by omega) (by omega) h0)
    belowK_t (belowK_b (Nat.le_refl _)) (Below.refl _ _) (fun _ => rfl)
    (fun pre W => pre = [] ∧ Below W0.heap.size W0 W)
    (fun c pre W => (c = .ret ∧ ∃ p, pre = [p] ∧ W.heap[w.heap.size + 1]? = some (FO true p)) ∧ Below w.heap.size w W)
    (OwnFrom.and (fun s X Y row hs _ _ => hs) (ownFrom_below (Nat.le_refl _) (Nat.le_refl _)))
    (fun c => OwnFrom.and (fun s X Y row hs hg hr => ⟨hs.1, by obtain ⟨p, h1, h2⟩ := hs.2; exact ⟨p, h1, (hg.block _ (Array.getElem?_eq_some_iff.1 h2).1 (fun e => by have := (hr _ e.symm).1; omega)).trans h2⟩⟩) (ownFrom_below (Nat.le_refl _) (by omega)))
    ⟨rfl, Below.refl _ _⟩
    (fun x a' W => ∃ Bx, W.heap[Bx]? = some (PO x) ∧ a' = { tmps := #[.agg #[.slice (some ⟨b, off, none⟩) len cap, .int .i64 turns], .int .i64 turn, .pointer (some ⟨w.heap.size, 0, none⟩), undef, .pointer (some ⟨w.heap.size + 1, 0, none⟩), .pointer (some ⟨bk, 0, none⟩), .pointer (some ⟨Bx, 0, none⟩), .agg #[.slice (some ⟨b, off, none⟩) len cap, .int .i64 turns], .pointer (some ⟨bk, 0, none⟩), .pointer (some ⟨bk, 0, none⟩), .bool true, .pointer (some ⟨bk, 0, none⟩), .int .i64 turn, .func (.func 110) #[] #[.pointer (some ⟨w1.heap.size, 0, none⟩), .pointer (some ⟨w1.heap.size + 1, 0, none⟩)], PVal x, undef, undef, undef], defers := [] })
    (fun x a' s X Y row hs hg hr => by
      obtain ⟨Bx, h2, h3⟩ := hs
      exact ⟨Bx, (hg.block Bx (Array.getElem?_eq_some_iff.1 h2).1 (fun e => by obtain ⟨_, o, ho, hc⟩ := hr Bx e.symm; rw [h2] at ho; cases ho; cases hc)).trans h2, h3⟩)
    ?assign ?body ?done ?stop
  case assign =>
    rintro l pre x W K ⟨hpre, hBW⟩ hK
    gi_wp2
    exact hK _ _ ((KeepsOthers.alloc _ _).from _) ((Below.refl _ _).alloc hBW.size _) ⟨hpre, hBW.alloc hBW.size _⟩ ⟨W.heap.size, World.alloc_heap_new _ _, rfl⟩
  case body =>
    rintro l pre x a' W hl _ ⟨rfl, hBW⟩ ⟨Bx, hbx, rfl⟩ _
    have hS1 : W.heap[w.heap.size + 1]? = some (FO false pd0) := (hBW.block _ (by omega)).trans HS0
    have x0 := blk_cell hbx 0; have x1 := blk_cell hbx 1; have x2 := blk_cell hbx 2; have x3 := blk_cell hbx 3; have x4 := blk_cell hbx 4; have x5 := blk_cell hbx 5; have x6 := blk_cell hbx 6; have x7 := blk_cell hbx 7; have x8 := blk_cell hbx 8; have x9 := blk_cell hbx 9; have x10 := blk_cell hbx 10
    have y0 := blk_cell hS1 0; have y1 := blk_cell hS1 1; have y2 := blk_cell hS1 2; have y3 := blk_cell hS1 3; have y4 := blk_cell hS1 4; have y5 := blk_cell hS1 5; have y6 := blk_cell hS1 6; have y7 := blk_cell hS1 7; have y8 := blk_cell hS1 8; have y9 := blk_cell hS1 9; have y10 := blk_cell hS1 10; have y11 := blk_cell hS1 11
    have z := blk_frozen hS1
    simp only [List.getElem?_toArray, List.getElem?_cons_zero, List.getElem?_cons_succ] at x0 x1 x2 x3 x4 x5 x6 x7 x8 x9 x10 y0 y1 y2 y3 y4 y5 y6 y7 y8 y9 y10 y11
    have HS1 : Hid (W.heap[w.heap.size + 1]? = some (FO false pd0)) := hS1
    have HW : Hid (Below W0.heap.size W0 W) := hBW
    clear hbx hS1 hBW
    gi_wp2_with fail
    exact ⟨(set12_keeps _ _ _ _).from _, ⟨rfl, x, rfl, set12_block HS1.out true x⟩, (hbW.trans (HW.out.mono hws)).trans ((set12_bt _ _ _ _).below (by have := HW.out.size; omega) (by simp))⟩
  case done =>
    rintro D xs W hD rfl ⟨hnil, hBW⟩ hK
    have hS1 : W.heap[w.heap.size + 1]? = some (FO false pd0) := (hBW.block _ (by omega)).trans HS0
    have y0 := blk_cell hS1 0; have y1 := blk_cell hS1 1; have y2 := blk_cell hS1 2; have y3 := blk_cell hS1 3; have y4 := blk_cell hS1 4; have y5 := blk_cell hS1 5; have y6 := blk_cell hS1 6; have y7 := blk_cell hS1 7; have y8 := blk_cell hS1 8; have y9 := blk_cell hS1 9; have y10 := blk_cell hS1 10; have y11 := blk_cell hS1 11
    have z := blk_frozen hS1
    simp only [List.getElem?_toArray, List.getElem?_cons_zero, List.getElem?_cons_succ] at y0 y1 y2 y3 y4 y5 y6 y7 y8 y9 y10 y11
    have HS1 : Hid (W.heap[w.heap.size + 1]? = some (FO false pd0)) := hS1
    have HW : Hid (Below W0.heap.size W0 W) := hBW
    have HK : Hid (W.heap[D]? = some (.deferred (some []))) := hK
    have HA : Hid (aft turn ps = none) := by
      show aft turn ps = none
      rw [ha]
      have := congrArg List.length hnil
      rw [List.length_drop] at this
      exact List.getElem?_eq_none (by simp at this; omega)
    clear hS1 hBW hK hnil
    gi_wp2_with fail
    have hK' : (set12 W (w.heap.size + 1) false pd0).heap[D]? = some (.deferred (some [])) := ((set12_bt W (w.heap.size + 1) false pd0).block D (Array.getElem?_eq_some_iff.1 HK.out).1 (by simp; omega)).trans HK.out
    have hF : ((set12 W (w.heap.size + 1) false pd0).putObj D (.deferred none)).heap[w.heap.size + 1]? = some (FO false pd0) := ((grownBy_putObj' _ D (.deferred none)).block _ (Array.getElem?_eq_some_iff.1 (set12_block HS1.out false pd0)).1 (by simp; omega)).trans (set12_block HS1.out false pd0)
    refine ⟨by simp, .inl ⟨_, _, rfl, run_takeDeferred hK', ?_⟩⟩
    have hBl : Below w.heap.size w (set12 W (w.heap.size + 1) false pd0) := (hbW.trans (HW.out.mono hws)).trans ((set12_bt _ _ _ _).below (by have := HW.out.size; omega) (by simp))
    refine ⟨FV false pd0, ?_, by rw [HA.out]; rfl, hBl.trans (belowK_b (w := W0) hws _ D _ _ hD hK' rfl rfl)⟩
    generalize hWf : World.putObj _ D (Obj.deferred none) = Wf
    have hF' : Wf.heap[w.heap.size + 1]? = some (FO false pd0) := by rw [← hWf]; exact hF
    clear hWf hF
    have r0 := blk_cell hF' 0; have r1 := blk_cell hF' 1; have r2 := blk_cell hF' 2; have r3 := blk_cell hF' 3; have r4 := blk_cell hF' 4; have r5 := blk_cell hF' 5; have r6 := blk_cell hF' 6; have r7 := blk_cell hF' 7; have r8 := blk_cell hF' 8; have r9 := blk_cell hF' 9; have r10 := blk_cell hF' 10; have r11 := blk_cell hF' 11
    simp only [List.getElem?_toArray, List.getElem?_cons_zero, List.getElem?_cons_succ] at r0 r1 r2 r3 r4 r5 r6 r7 r8 r9 r10 r11
    simp [results, Try.f41, go_sem, r0, r1, r2, r3, r4, r5, r6, r7, r8, r9, r10, r11]
  case stop =>
    rintro D c pre W hD hpre ⟨⟨rfl, p, rfl, hF0⟩, hBW⟩ hK
    have HA : Hid (aft turn ps = some p) := by
      show aft turn ps = some p
      rw [ha]
      obtain ⟨t, ht⟩ := hpre
      have : (ps.drop m)[0]? = some p := by rw [← ht]; rfl
      rw [List.getElem?_drop] at this; exact this
    have HK : Hid (W.heap[D]? = some (.deferred (some []))) := hK
    have HF0 : Hid (W.heap[w.heap.size + 1]? = some (FO true p)) := hF0
    have HW : Hid (Below w.heap.size w W) := hBW
    clear hpre hF0 hBW hK
    gi_wp2_with fail
    have hF : (W.putObj D (.deferred none)).heap[w.heap.size + 1]? = some (FO true p) := ((grownBy_putObj' _ D (.deferred none)).block _ (Array.getElem?_eq_some_iff.1 HF0.out).1 (by simp; omega)).trans HF0.out
    refine ⟨by simp, .inl ⟨_, _, rfl, run_takeDeferred HK.out, ?_⟩⟩
    refine ⟨FV true p, ?_, by rw [HA.out]; rfl, HW.out.trans (belowK_b (w := W0) hws _ D _ _ hD HK.out rfl rfl)⟩
    have r0 := blk_cell hF 0; have r1 := blk_cell hF 1; have r2 := blk_cell hF 2; have r3 := blk_cell hF 3; have r4 := blk_cell hF 4; have r5 := blk_cell hF 5; have r6 := blk_cell hF 6; have r7 := blk_cell hF 7; have r8 := blk_cell hF 8; have r9 := blk_cell hF 9; have r10 := blk_cell hF 10; have r11 := blk_cell hF 11
    simp only [List.getElem?_toArray, List.getElem?_cons_zero, List.getElem?_cons_succ] at r0 r1 r2 r3 r4 r5 r6 r7 r8 r9 r10 r11
    simp [results, Try.f41, go_sem, r0, r1, r2, r3, r4, r5, r6, r7, r8, r9, r10, r11]
end Go.Proofs.Ytkipmogmejfmcaa
