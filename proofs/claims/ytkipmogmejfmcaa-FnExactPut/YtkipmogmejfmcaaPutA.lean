import Derived.Test.YtkipmogmejfmcaaBGet
import Derived.RangeFuncNested
import Derived.RangeFuncBound
import Derived.RangeFuncCalls
import Derived.RangeFuncLeaves
import Derived.Shelf.Abstract
import Derived.OwnWalkIn
import Derived.TacticsInMore
import Derived.LoopNIn
import Derived.LoopIn
import Derived.Test.YtkipmogmejfmcaaBGetW
import Derived.OwnWalk
import Derived.Test.YtkipmogmejfmcaaBGetO
import Derived.Test.YtkipmogmejfmcaaSlot
import Derived.Laws.IdiomStrings
import Derived.Laws.Concat
import Derived.Test.YtkipmogmejfmcaaBMap
import Derived.Test.YtkipmogmejfmcaaLat
import Derived.Test.YtkipmogmejfmcaaFloor
import Derived.Deep.RegionWith
/-
  OWN WORK. After of the program: the search for the first pair behind a turn.
-/
namespace Go.Proofs.Ytkipmogmejfmcaa
open Go.RowKit
attribute [local go_sem] run_store_float
set_option linter.unusedVariables false

/-- The turns of a list go up. -/
def Up (ps : List PD) : Prop := ∀ (i j : Nat) (p q : PD), i ≤ j → ps[i]? = some p → ps[j]? = some q → p.turn ≤ q.turn

theorem tokL_up {turns : Int} {rest : List PD} : ∀ {ds : List PD} {last : Int}, tokL turns ds rest last = true → Up rest ∧ ∀ p ∈ rest, last < p.turn := by
  induction rest with
  | nil => intro ds last _; exact ⟨fun i j p q _ h => by simp at h, fun p hp => by cases hp⟩
  | cons d rest ih =>
    intro ds last h
    unfold tokL at h
    simp only [Bool.and_eq_true, decide_eq_true_eq] at h
    obtain ⟨h1, h2⟩ := ih h.2
    have hl : last < d.turn := h.1.1.1.2
    refine ⟨?_, ?_⟩
    · intro i j p q hij hp hq
      cases i with
      | zero =>
        simp at hp; subst hp
        cases j with
        | zero => simp at hq; subst hq; exact Int.le_refl _
        | succ j => simp at hq; exact Int.le_of_lt (h2 q (List.mem_of_getElem? hq))
      | succ i =>
        cases j with
        | zero => omega
        | succ j => simp at hp hq; exact h1 i j p q (by omega) hp hq
    · intro p hp
      rcases List.mem_cons.1 hp with rfl | hp
      · exact hl
      · exact Int.lt_trans hl (h2 p hp)
theorem tokV_up {ps : List PD} {turns : Int} (h : tokV ps turns = true) : Up ps := by
  unfold tokV at h
  simp only [Bool.and_eq_true] at h
  exact (tokL_up h.2).1

/-- All ahead of a place are not behind the turn, all from it on are. -/
def Split (ps : List PD) (turn : Int) (m : Nat) : Prop := m ≤ ps.length ∧ (∀ i p, i < m → ps[i]? = some p → p.turn ≤ turn) ∧ (∀ i p, m ≤ i → ps[i]? = some p → turn < p.turn)

theorem split_aft {turn : Int} : ∀ {ps : List PD} {m : Nat}, Split ps turn m → aft turn ps = ps[m]? := by
  intro ps
  induction ps with
  | nil => intro m _; simp [aft]
  | cons p ps ih =>
    intro m h
    obtain ⟨h0, h1, h2⟩ := h
    cases m with
    | zero =>
      have := h2 0 p (Nat.le_refl _) rfl
      unfold aft; rw [if_pos this]; rfl
    | succ m =>
      have := h1 0 p (by omega) rfl
      unfold aft
      rw [if_neg (by omega)]
      rw [ih (m := m) ⟨by simpa using h0, fun i q hi hq => h1 (i + 1) q (by omega) (by simpa using hq), fun i q hi hq => h2 (i + 1) q (by omega) (by simpa using hq)⟩]
      simp

set_option maxRecDepth 20000 in
set_option maxHeartbeats 1000000 in
theorem srch_at (lx tx lb cap i : Nat) (ps : List PD) (turn : Int) (w : World) (hlen : ps.length ≤ 1048576) (c0 : w.cell? ⟨lx, 0, none⟩ = some (.slice (some ⟨lb, 0, none⟩) ps.length cap)) (c1 : w.cell? ⟨tx, 0, none⟩ = some (.int .i64 turn)) (hp : PAt w lb 0 ps) (p : PD) (hi : ps[i]? = some p) :
    Calls Try.prog 112 #[.int .i64 (i : Int), .pointer (some ⟨lx, 0, none⟩), .pointer (some ⟨tx, 0, none⟩)] w fun e w' => e = .returned (.bool (decide (turn < p.turn))) ∧ Below w.heap.size w w' := by
  have hil : i < ps.length := (List.getElem?_eq_some_iff.1 hi).1
  have c2 : w.cell? ⟨lb, i * 11 + 10, none⟩ = some (.int .i64 p.turn) := by have := hp i p hi 10 _ rfl; rw [Nat.zero_add] at this; exact this
  clear hp hi
  go_enter Try.func112, Try.ntmps112
  go_wp2_with fail
  go_quiet (fail)
  go_wp2_with fail
  go_ret
  exact ⟨rfl, below_draw _ _ _⟩

set_option maxRecDepth 20000 in
set_option maxHeartbeats 1000000 in
theorem srch_any (lx tx lb cap : Nat) (ps : List PD) (turn : Int) (w : World) (hlen : ps.length ≤ 1048576) (c0 : w.cell? ⟨lx, 0, none⟩ = some (.slice (some ⟨lb, 0, none⟩) ps.length cap)) (c1 : w.cell? ⟨tx, 0, none⟩ = some (.int .i64 turn)) (hp : PAt w lb 0 ps) (hu : Up ps) :
    Calls Try.prog 111 #[.int .i64 (ps.length : Int), .func (.func 112) #[] #[.pointer (some ⟨lx, 0, none⟩), .pointer (some ⟨tx, 0, none⟩)]] w fun e w' => (∃ m : Nat, e = .returned (.int .i64 (m : Int)) ∧ Split ps turn m) ∧ Below w.heap.size w w' := by
  have HP : Hid (PAt w lb 0 ps) := hp
  have HU : Hid (Up ps) := hu
  have HC0 : Hid (w.cell? ⟨lx, 0, none⟩ = some (.slice (some ⟨lb, 0, none⟩) ps.length cap)) := c0
  have HC1 : Hid (w.cell? ⟨tx, 0, none⟩ = some (.int .i64 turn)) := c1
  clear hp hu c0 c1
  go_enter Try.func111, Try.ntmps111
  go_wp2_with fail
  go_loopw [5, 6] (fun a c wr => ∃ i j : Nat, a = .int .i64 i ∧ c = .int .i64 j ∧ i ≤ j ∧ j ≤ ps.length ∧ Below w.heap.size w wr ∧ Hid (∀ k p, k < i → ps[k]? = some p → p.turn ≤ turn) ∧ Hid (∀ k p, j ≤ k → ps[k]? = some p → turn < p.turn)) (fun a c _ => (intOf c).toNat - (intOf a).toNat)
  case atStart => exact ⟨0, ps.length, rfl, rfl, Nat.zero_le _, Nat.le_refl _, Below.refl _ _, fun k p hk => absurd hk (Nat.not_lt_zero _), fun k p hk h => by have := (List.getElem?_eq_some_iff.1 h).1; omega⟩
  case round =>
    obtain ⟨i, j, rfl, rfl, hij, hjl, hB, h1, h2⟩ := hrel
    by_cases k1 : i < j
    · obtain ⟨h, hh, hn⟩ : ∃ h : Nat, ((i : Int) + (j : Int)) / 2 = (h : Int) ∧ h = (i + j) / 2 := ⟨(i + j) / 2, by omega, rfl⟩
      obtain ⟨p, hpm⟩ : ∃ p, ps[h]? = some p := ⟨ps[h]'(by omega), by simp⟩
      have HM : Hid (ps[h]? = some p) := hpm
      have hi1 : i ≤ h := by omega
      have hi2 : h < j := by omega
      have HH : Hid (((i : Int) + (j : Int)) / 2 = (h : Int)) := hh
      clear hpm hn hh
      go_wp2_with fail
      rw [HH.out]
      refine (srch_at lx tx lb cap h ps turn _ hlen (cell_later hB HC0.out) (cell_later hB HC1.out) (HP.out.later hB) p HM.out).mono ?_
      rintro e w1 ⟨rfl, hx⟩
      replace hB := hB.trans (hx.mono hB.size)
      clear hx
      by_cases g : turn < p.turn
      · have g' : decide (turn < p.turn) = true := by simpa using g
        go_wp2_with fail
        go_roundw
        case rel => exact ⟨i, h, rfl, rfl, hi1, by omega, hB, h1, fun k q hk hq => Int.lt_of_lt_of_le g (HU.out h k p q hk HM.out hq)⟩
        case measure => simp [intOf]; omega
      · have g' : decide (turn < p.turn) = false := by simpa using g
        go_wp2_with fail
        go_roundw
        case rel => exact ⟨h + 1, j, by go_num, rfl, by omega, hjl, hB, fun k q hk hq => Int.le_trans (HU.out k h q p (by omega) hq HM.out) (by omega), h2⟩
        case measure => simp [intOf]; omega
    · have hji : j = i := by omega
      subst hji
      go_wp2_with fail
      go_ret
      exact ⟨⟨j, rfl, hjl, h1.out, h2.out⟩, hB⟩
end Go.Proofs.Ytkipmogmejfmcaa

/-
  OWN WORK. After of the program: the iterator over the pairs behind a turn.
-/
namespace Go.Proofs.Ytkipmogmejfmcaa
open Go.RowKit Go.Shelf
attribute [local go_sem] run_store_float Oper.semAt_some
set_option linter.unusedVariables false

theorem split_one {ps : List PD} {turn : Int} {m k : Nat} (h : Split ps turn m) (g : Split ps turn k) : m = k := by
  obtain ⟨h0, h1, h2⟩ := h
  obtain ⟨g0, g1, g2⟩ := g
  rcases Nat.lt_trichotomy m k with hlt | he | hlt
  · exfalso
    have hp : ps[m]? = some (ps[m]'(by omega)) := by simp
    have a1 := g1 m _ hlt hp
    have a2 := h2 m _ (Nat.le_refl _) hp
    omega
  · exact he
  · exfalso
    have hp : ps[k]? = some (ps[k]'(by omega)) := by simp
    have a1 := h1 k _ hlt hp
    have a2 := g2 k _ (Nat.le_refl _) hp
    omega

theorem grown_of {w w' : World} (h : Below w.heap.size w w') : w.grownBy w' none := ⟨h.os, h.tape, h.output, h.size, fun k hk _ => h.block k hk⟩

set_option maxRecDepth 100000 in
set_option maxHeartbeats 2000000 in
theorem iter_in (n l bb tb bk lb mb m n₀ : Nat) (ps : List PD) (turns turn : Int) (J Jx : List PD → World → Prop) (hn : 1 ≤ n) (hlen : ps.length ≤ 1048576) (hS : Split ps turn m) (hU : Up ps)
    (hY : ∀ pre x W, J pre W → pre.length < (ps.drop m).length → YieldAt Fence.wide (n - 1) Try.prog l #[PVal x] W fun e W' =>
      (e = .returned (.bool true) ∧ J (pre ++ [x]) W' ∧ Below n₀ W W') ∨ (e = .returned (.bool false) ∧ Jx (pre ++ [x]) W'))
    (W : World) (hJ : AbidesFrom W.heap.size J) (c0 : W.cell? ⟨bb, 0, none⟩ = some (.pointer (some ⟨bk, 0, none⟩))) (c1 : W.cell? ⟨tb, 0, none⟩ = some (.int .i64 turn)) (hB : Book W bk lb mb (ps.length + 1) ps turns) (hb1 : bb < n₀) (hb2 : tb < n₀) (hb3 : lb < n₀) (h0 : J [] W) :
    CallsIn Fence.wide n Try.prog 110 #[.func (.yield l) #[] #[], .pointer (some ⟨bb, 0, none⟩), .pointer (some ⟨tb, 0, none⟩)] W fun e W' => (∃ v, e = .returned v) ∧
      ((∃ ys, ys = ps.drop m ∧ J ys W') ∨ (∃ pre, pre <+: ps.drop m ∧ Jx pre W')) := by
  have d0 : W.cell? ⟨bk, 0, none⟩ = some (.slice (some ⟨lb, 0, none⟩) ps.length (ps.length + 1)) := by rw [blk_cell hB.head]; rfl
  have HB : Hid (Book W bk lb mb (ps.length + 1) ps turns) := hB
  have HS : Hid (Split ps turn m) := hS
  have HU : Hid (Up ps) := hU
  clear hB hS hU
  refine callsIn_of_wp Try.func110 rfl trivial ?_ rfl
  simp only [Try.ntmps110, List.size_toArray, List.length_cons, List.length_nil, Nat.reduceAdd, Nat.reduceSub, Array.replicate_succ, Array.replicate_zero, List.push_toArray, List.append_toArray, List.nil_append, List.cons_append]
  gi_wp2_with fail
  have hw1 := bw1 W (.cells #[.slice (some ⟨lb, 0, none⟩) ps.length (ps.length + 1)] 53)
  refine ⟨trivial, (callsIn_wide.2 (srch_any W.heap.size tb lb (ps.length + 1) ps turn _ hlen (by simp [go_sem]) (cell_later hw1 c1) (HB.out.at.later hw1) HU.out)).mono ?_⟩
  rintro e w1 ⟨⟨m', rfl, hS'⟩, hx⟩
  obtain rfl : m' = m := split_one hS' HS.out
  have q0 : w1.cell? ⟨W.heap.size, 0, none⟩ = some (.slice (some ⟨lb, 0, none⟩) ps.length (ps.length + 1)) := by rw [hx.cell (by simp)]; simp [go_sem]
  have hb := hw1.trans (hx.mono (by simp))
  have hJ1 : J [] w1 := hJ [] W w1 none h0 (grown_of hb) (fun r e => by cases e)
  have HPA : Hid (PAt w1 lb 0 ps) := HB.out.at.later hb
  have hml : m' ≤ ps.length := HS.out.1
  have ncap : ¬ ps.length + 1 = m' := by omega
  have HJ1 : Hid (J [] w1) := hJ1
  have HJ : Hid (AbidesFrom W.heap.size J) := hJ
  have HY : Hid (∀ pre x W, J pre W → pre.length < (ps.drop m').length → YieldAt Fence.wide (n - 1) Try.prog l #[PVal x] W fun e W' =>
      (e = .returned (.bool true) ∧ J (pre ++ [x]) W' ∧ Below n₀ W W') ∨ (e = .returned (.bool false) ∧ Jx (pre ++ [x]) W')) := hY
  clear hx hS' hJ1 hJ hY c0 c1 d0 hw1 h0
  gi_wp2_with fail
  gi_loopw [21] (fun i wr => ∃ k : Nat, i = .int .i64 k ∧ k ≤ ps.length - m' ∧ W.heap.size ≤ wr.heap.size ∧ Hid (PAt wr lb 0 ps) ∧ Hid (J ((ps.drop m').take k) wr)) (fun i _ => ps.length - m' - (intOf i).toNat)
  case atStart => exact ⟨0, rfl, Nat.zero_le _, hb.size, HPA, HJ1⟩
  case round =>
    obtain ⟨k, rfl, hk, hsz, hPA, hJk⟩ := hrel
    by_cases k1 : k < ps.length - m'
    · obtain ⟨p, hpm⟩ : ∃ p, ps[m' + k]? = some p := ⟨ps[m' + k]'(by omega), by simp⟩
      have HM : Hid (ps[m' + k]? = some p) := hpm
      have ce : ∀ j v, p.cells[j]? = some v → wr.cell? ⟨lb, m' * 11 + k * 11 + j, none⟩ = some v := fun j v hv => by
        have := hPA.out (m' + k) p hpm j v hv
        rw [show 0 + (m' + k) * 11 + j = m' * 11 + k * 11 + j by omega] at this; exact this
      have x0 : wr.cell? ⟨lb, m' * 11 + k * 11, none⟩ = some (.int .i64 p.key.k) := ce 0 _ rfl
      have x1 := ce 1 _ rfl; have x2 := ce 2 _ rfl; have x3 := ce 3 _ rfl; have x4 := ce 4 _ rfl; have x5 := ce 5 _ rfl; have x6 := ce 6 _ rfl; have x7 := ce 7 _ rfl; have x8 := ce 8 _ rfl; have x9 := ce 9 _ rfl; have x10 := ce 10 _ rfl
      clear ce hpm
      have hJ' : J ((ps.drop m').take k) (wr.alloc (.cells #[.int .i64 p.key.k, .int .i64 p.key.n, .float .f64 p.key.f, .string p.key.s, .int .i64 p.key.r, .int .i64 p.val.k, .int .i64 p.val.n, .float .f64 p.val.f, .string p.val.s, .int .i64 p.val.r, .int .i64 p.turn] 60)) := HJ.out _ _ _ none hJk.out (grown_of (bw1 _ _)) (fun r e => by cases e)
      obtain ⟨fn, tmps, assign, body, hy, hR⟩ := HY.out _ p _ hJ' (by rw [List.length_take, List.length_drop]; omega)
      clear hJ'
      have HT : Hid ((ps.drop m').take (k + 1) = (ps.drop m').take k ++ [p]) := take_snoc (by rw [List.getElem?_drop]; exact HM.out)
      have HPx : Hid (PAt (wr.alloc (.cells #[.int .i64 p.key.k, .int .i64 p.key.n, .float .f64 p.key.f, .string p.key.s, .int .i64 p.key.r, .int .i64 p.val.k, .int .i64 p.val.n, .float .f64 p.val.f, .string p.val.s, .int .i64 p.val.r, .int .i64 p.turn] 60)) lb 0 ps) := hPA.out.later (bw1 _ _)
      gi_wp2_with fail
      refine hR.mono ?_
      clear hR hy x0 x1 x2 x3 x4 x5 x6 x7 x8 x9 x10
      rintro e W3 (⟨rfl, hJ3, hk3⟩ | ⟨rfl, hJx3⟩)
      · have hs3 := hk3.size
        have HK3 : Hid (Below n₀ (wr.alloc (.cells #[.int .i64 p.key.k, .int .i64 p.key.n, .float .f64 p.key.f, .string p.key.s, .int .i64 p.key.r, .int .i64 p.val.k, .int .i64 p.val.n, .float .f64 p.val.f, .string p.val.s, .int .i64 p.val.r, .int .i64 p.turn] 60)) W3) := hk3
        have HJ3 : Hid (J ((ps.drop m').take k ++ [p]) W3) := hJ3
        simp at hs3
        clear hk3 hJ3
        gi_wp2_with fail
        go_roundw
        case rel => exact ⟨k + 1, by go_num, by omega, by omega, fun i q hi j v hv => (HK3.out.cell (p := ⟨lb, 0 + i * 11 + j, none⟩) hb3).trans (HPx.out i q hi j v hv), by have := HJ3.out; rw [← HT.out] at this; exact this⟩
        case measure => simp [intOf]; omega
      · have HX : Hid (Jx ((ps.drop m').take k ++ [p]) W3) := hJx3
        clear hJx3
        gi_wp2_with fail
        refine bodyPost_ret (results_none rfl _ _ _) rfl ?_
        exact ⟨⟨_, rfl⟩, .inr ⟨_, by rw [← HT.out]; exact List.take_prefix _ _, HX.out⟩⟩
    · have HJe : Hid (J (ps.drop m') wr) := by have := hJk.out; rw [List.take_of_length_le (by rw [List.length_drop]; omega)] at this; exact this
      clear hJk
      gi_wp2_with fail
      go_end0
      exact ⟨⟨_, rfl⟩, .inl ⟨_, rfl, HJe.out⟩⟩
end Go.Proofs.Ytkipmogmejfmcaa

/-
  OWN WORK. After of the program, whole.
-/
namespace Go.Proofs.Ytkipmogmejfmcaa
open Go.RowKit Go.Shelf
attribute [local go_sem] run_store_float Oper.semAt_some
set_option linter.unusedVariables false

set_option maxRecDepth 20000 in
set_option maxHeartbeats 400000 in
theorem after_any (bk : Nat) (turn : Int) (w : World) : Calls Try.prog 82 #[.pointer (some ⟨bk, 0, none⟩), .int .i64 turn] w fun e w' => e = .returned (.func (.func 110) #[] #[.pointer (some ⟨w.heap.size, 0, none⟩), .pointer (some ⟨w.heap.size + 1, 0, none⟩)]) ∧ w'.cell? ⟨w.heap.size, 0, none⟩ = some (.pointer (some ⟨bk, 0, none⟩)) ∧ w'.cell? ⟨w.heap.size + 1, 0, none⟩ = some (.int .i64 turn) ∧ w'.heap.size = w.heap.size + 2 ∧ Below w.heap.size w w' := by
  go_enter Try.func82, Try.ntmps82
  go_wp2
  go_ret
  exact ⟨rfl, by simp [go_sem], by simp [go_sem], by simp, bw2 _ _ _⟩

set_option maxRecDepth 20000 in
set_option maxHeartbeats 1000000 in
theorem iaft_bad (b off len cap : Nat) (ps : List PD) (turns turn : Int) (w : World) (hl : ps.length = len) (hp : PAt w b off ps) (hlen : len ≤ 1048576) (hok : ∀ p ∈ ps, p.ok) (ht : tokV ps turns = false) :
    Calls Try.prog 41 #[.agg #[.slice (some ⟨b, off, none⟩) len cap, .int .i64 turns], .int .i64 turn] w fun e w' => e = .returned (FV false pd0) ∧ Below w.heap.size w w' := by
  have HP : Hid (PAt w b off ps) := hp
  clear hp
  go_enter Try.func41, Try.ntmps41
  go_wp2_with fail
  refine (book_no b off len cap ps turns _ hl (by exact HP.out.later (bw2 _ _ _)) hlen hok ht).mono ?_
  rintro e w1 ⟨rfl, hx⟩
  obtain ⟨h0, h1⟩ := heap2 w (.cells #[.slice (some ⟨b, off, none⟩) len cap, .int .i64 turns] 55) (.cells #[.bool false, .int .i64 0, .int .i64 0, .float .f64 0, .string ⟨#[]⟩, .int .i64 0, .int .i64 0, .int .i64 0, .float .f64 0, .string ⟨#[]⟩, .int .i64 0, .int .i64 0] 62)
  have sl : Slot12 w1 (w.heap.size + 1) := ⟨_, _, (hx.block (w.heap.size + 1) (by simp)).trans h1, rfl⟩
  have hb := (bw2 _ _ _).trans (hx.mono (by simp; omega))
  clear hx h0 h1
  obtain ⟨v0, v1, v2, v3, v4, v5, v6, v7, v8, v9, v10, v11, d0, d1, d2, d3, d4, d5, d6, d7, d8, d9, d10, d11, z, hz⟩ := sl.cells
  go_wp2_with fail
  exact bodyPost_ret (v := FV false pd0) (by simp [results, Try.results41, go_sem, d0, d1, d2, d3, d4, d5, d6, d7, d8, d9, d10, d11, pd0]) rfl ⟨rfl, below12 hb (by omega) _ _ _ _ _ _ _ _ _ _ _ _⟩

/-- An answer of After, as a block. -/
abbrev FO (f : Bool) (p : PD) : Obj := .cells #[.bool f, .int .i64 p.key.k, .int .i64 p.key.n, .float .f64 p.key.f, .string p.key.s, .int .i64 p.key.r, .int .i64 p.val.k, .int .i64 p.val.n, .float .f64 p.val.f, .string p.val.s, .int .i64 p.val.r, .int .i64 p.turn] 62
/-- A pair, as a block. -/
abbrev PO (p : PD) : Obj := .cells #[.int .i64 p.key.k, .int .i64 p.key.n, .float .f64 p.key.f, .string p.key.s, .int .i64 p.key.r, .int .i64 p.val.k, .int .i64 p.val.n, .float .f64 p.val.f, .string p.val.s, .int .i64 p.val.r, .int .i64 p.turn] 60

/-- Twelve cells are written. -/
abbrev set12 (w : World) (g : Nat) (f : Bool) (p : PD) : World := ((((((((((((w.setCell ⟨g, 0, none⟩ (.bool f)).setCell ⟨g, 1, none⟩ (.int .i64 p.key.k)).setCell ⟨g, 2, none⟩ (.int .i64 p.key.n)).setCell ⟨g, 3, none⟩ (.float .f64 p.key.f)).setCell ⟨g, 4, none⟩ (.string p.key.s)).setCell ⟨g, 5, none⟩ (.int .i64 p.key.r)).setCell ⟨g, 6, none⟩ (.int .i64 p.val.k)).setCell ⟨g, 7, none⟩ (.int .i64 p.val.n)).setCell ⟨g, 8, none⟩ (.float .f64 p.val.f)).setCell ⟨g, 9, none⟩ (.string p.val.s)).setCell ⟨g, 10, none⟩ (.int .i64 p.val.r)).setCell ⟨g, 11, none⟩ (.int .i64 p.turn))

theorem set12_block {w : World} {g : Nat} {f0 : Bool} {p0 : PD} (h : w.heap[g]? = some (FO f0 p0)) (f : Bool) (p : PD) : (set12 w g f p).heap[g]? = some (FO f p) := by
  have hb := blk_set (blk_set (blk_set (blk_set (blk_set (blk_set (blk_set (blk_set (blk_set (blk_set (blk_set (blk_set h 0 (.bool f)) 1 (.int .i64 p.key.k)) 2 (.int .i64 p.key.n)) 3 (.float .f64 p.key.f)) 4 (.string p.key.s)) 5 (.int .i64 p.key.r)) 6 (.int .i64 p.val.k)) 7 (.int .i64 p.val.n)) 8 (.float .f64 p.val.f)) 9 (.string p.val.s)) 10 (.int .i64 p.val.r)) 11 (.int .i64 p.turn)
  rw [hb]
  simp
theorem set12_bt (w : World) (g : Nat) (f : Bool) (p : PD) : Bt [g] w (set12 w g f p) :=
  ((((((((((((Bt.refl [g] w).setCell (p := ⟨g, 0, none⟩) (by simp) _).setCell (p := ⟨g, 1, none⟩) (by simp) _).setCell (p := ⟨g, 2, none⟩) (by simp) _).setCell (p := ⟨g, 3, none⟩) (by simp) _).setCell (p := ⟨g, 4, none⟩) (by simp) _).setCell (p := ⟨g, 5, none⟩) (by simp) _).setCell (p := ⟨g, 6, none⟩) (by simp) _).setCell (p := ⟨g, 7, none⟩) (by simp) _).setCell (p := ⟨g, 8, none⟩) (by simp) _).setCell (p := ⟨g, 9, none⟩) (by simp) _).setCell (p := ⟨g, 10, none⟩) (by simp) _).setCell (p := ⟨g, 11, none⟩) (by simp) _
theorem set12_keeps (w : World) (g : Nat) (f : Bool) (p : PD) : KeepsOthers w (set12 w g f p) :=
  (((((((((((KeepsOthers.setCell w ⟨g, 0, none⟩ _).trans (KeepsOthers.setCell _ ⟨g, 1, none⟩ _)).trans (KeepsOthers.setCell _ ⟨g, 2, none⟩ _)).trans (KeepsOthers.setCell _ ⟨g, 3, none⟩ _)).trans (KeepsOthers.setCell _ ⟨g, 4, none⟩ _)).trans (KeepsOthers.setCell _ ⟨g, 5, none⟩ _)).trans (KeepsOthers.setCell _ ⟨g, 6, none⟩ _)).trans (KeepsOthers.setCell _ ⟨g, 7, none⟩ _)).trans (KeepsOthers.setCell _ ⟨g, 8, none⟩ _)).trans (KeepsOthers.setCell _ ⟨g, 9, none⟩ _)).trans (KeepsOthers.setCell _ ⟨g, 10, none⟩ _)).trans (KeepsOthers.setCell _ ⟨g, 11, none⟩ _)

theorem book_lt2 {w : World} {bk lb mb cap : Nat} {ds : List PD} {turns : Int} (h : Book w bk lb mb cap ds turns) : lb < w.heap.size := by
  obtain ⟨h1, ⟨ar, h2, h3, h4⟩, _, m1, m2, m3⟩ := h
  exact (Array.getElem?_eq_some_iff.1 h2).1

theorem split_ex {turn : Int} : ∀ {ps : List PD}, Up ps → ∃ m, Split ps turn m := by
  intro ps
  induction ps with
  | nil => intro _; exact ⟨0, Nat.le_refl _, fun i p hi => absurd hi (Nat.not_lt_zero _), fun i p _ h => by simp at h⟩
  | cons d ps ih =>
    intro hU
    by_cases h : d.turn ≤ turn
    · obtain ⟨m, h0, h1, h2⟩ := ih (fun i j p q hij hp hq => hU (i + 1) (j + 1) p q (by omega) (by simpa using hp) (by simpa using hq))
      refine ⟨m + 1, by simp; omega, ?_, ?_⟩
      · intro i p hi hp
        cases i with
        | zero => simp at hp; subst hp; exact h
        | succ i => exact h1 i p (by omega) (by simpa using hp)
      · intro i p hi hp
        cases i with
        | zero => omega
        | succ i => exact h2 i p (by omega) (by simpa using hp)
    · refine ⟨0, Nat.zero_le _, fun i p hi => absurd hi (Nat.not_lt_zero _), ?_⟩
      intro i p _ hp
      have := hU 0 i d p (Nat.zero_le _) rfl hp
      omega

set_option maxRecDepth 100000 in
set_option maxHeartbeats 4000000 in
theorem iaft_ok (b off len cap : Nat) (ps : List PD) (turns turn : Int) (w : World) (hl : ps.length = len) (hp : PAt w b off ps) (hlen : len ≤ 1048576) (hok : ∀ p ∈ ps, p.ok) (ht : tokV ps turns = true) :
    Calls Try.prog 41 #[.agg #[.slice (some ⟨b, off, none⟩) len cap, .int .i64 turns], .int .i64 turn] w fun e w' => e = .returned (FV (aft turn ps).isSome ((aft turn ps).getD pd0)) ∧ Below w.heap.size w w' := by
  have HP : Hid (PAt w b off ps) := hp
  have HT : Hid (tokV ps turns = true) := ht
  clear hp ht
  refine (callsIn_wide (n := 5)).1 ?_
  refine callsIn_of_wp_marks Try.func41 rfl trivial ?_ rfl
  simp only [Try.ntmps41, List.size_toArray, List.length_cons, List.length_nil, Nat.reduceAdd, Nat.reduceSub, Array.replicate_succ, Array.replicate_zero, List.push_toArray, List.append_toArray, List.nil_append, List.cons_append]
  gi_wp2_with fail
  refine ⟨trivial, (callsIn_wide.2 (book_yes b off len cap ps turns _ hl (by exact HP.out.later (bw2 _ _ _)) hlen hok HT.out)).mono ?_⟩
  rintro e w1 ⟨bk, lb, mb, rfl, hgs, hBk, hx⟩
  obtain ⟨h0, h1⟩ := heap2 w (.cells #[.slice (some ⟨b, off, none⟩) len cap, .int .i64 turns] 55) (.cells #[.bool false, .int .i64 0, .int .i64 0, .float .f64 0, .string ⟨#[]⟩, .int .i64 0, .int .i64 0, .int .i64 0, .float .f64 0, .string ⟨#[]⟩, .int .i64 0, .int .i64 0] 62)
  have HSl : Hid (w1.heap[w.heap.size + 1]? = some (.cells #[.bool false, .int .i64 0, .int .i64 0, .float .f64 0, .string ⟨#[]⟩, .int .i64 0, .int .i64 0, .int .i64 0, .float .f64 0, .string ⟨#[]⟩, .int .i64 0, .int .i64 0] 62)) := (hx.block (w.heap.size + 1) (by simp)).trans h1
  have hb := (bw2 _ _ _).trans (hx.mono (by simp; omega))
  have HB : Hid (Book w1 bk lb mb (ps.length + 1) ps turns) := hBk
  clear hx h0 h1 hgs hBk
  gi_wp2_with fail
  refine ⟨trivial, (callsIn_wide.2 (after_any bk turn _)).mono ?_⟩
  rintro e W0 ⟨rfl, b0, b1, hsz, hx⟩
  gi_wp2_with fail
  obtain ⟨m, hS⟩ := split_ex (turn := turn) (tokV_up HT.out)
  have ha : aft turn ps = ps[m]? := split_aft hS
  have HS0 : W0.heap[w.heap.size + 1]? = some (FO false pd0) := (hx.block _ (Array.getElem?_eq_some_iff.1 HSl.out).1).trans HSl.out
  have hR := (Array.getElem?_eq_some_iff.1 HSl.out).1
  have HB0 := HB.out.later hx
  have hlb := (book_lt2 HB.out)
  have hbW : Below w.heap.size w W0 := hb.trans (hx.mono hb.size)
  have hws := hbW.size
  refine wpIn_rangeFunc_ownH (F := Fence.wide) (n := 5) (α := PD) rfl (by omega) (gf := 110) (lb := #[.pointer (some ⟨w1.heap.size, 0, none⟩), .pointer (some ⟨w1.heap.size + 1, 0, none⟩)]) rfl trivial (enters_of Try.func110 (by kernel_rfl) rfl)
    (encs := fun p => #[PVal p]) (Kp := Below W0.heap.size) (S := fun xs => xs = ps.drop m) (Sp := fun pre => pre <+: ps.drop m) (N := (ps.drop m).length) (w0 := W0)
    (fun l J Jx W hW hJ hJx hY h0 => iter_in (5 - 1) l w1.heap.size (w1.heap.size + 1) bk lb mb m W0.heap.size ps turns turn J Jx (by omega) (by omega) hS (tokV_up HT.out) hY W hJ (cell_later hW b0) (cell_later hW b1) (HB0.later hW) (by omega) (by omega) (by omega) h0)
    belowK_t (belowK_b (Nat.le_refl _)) (Below.refl _ _) (fun _ => rfl)
    (fun pre W => pre = [] ∧ Below W0.heap.size W0 W)
    (fun c pre W => (c = .ret ∧ ∃ p, pre = [p] ∧ W.heap[w.heap.size + 1]? = some (FO true p)) ∧ Below w.heap.size w W)
    (OwnFrom.and (fun s X Y row hs _ _ => hs) (ownFrom_below (Nat.le_refl _) (Nat.le_refl _)))
    (fun c => OwnFrom.and (fun s X Y row hs hg hr => ⟨hs.1, by obtain ⟨p, h1, h2⟩ := hs.2; exact ⟨p, h1, (hg.block _ (Array.getElem?_eq_some_iff.1 h2).1 (fun e => by have := (hr _ e.symm).1; omega)).trans h2⟩⟩) (ownFrom_below (Nat.le_refl _) (by omega)))
    ⟨rfl, Below.refl _ _⟩
    (fun x a' W => ∃ Bx, W.heap[Bx]? = some (PO x) ∧ a' = { tmps := #[.agg #[.slice (some ⟨b, off, none⟩) len cap, .int .i64 turns], .int .i64 turn, .pointer (some ⟨w.heap.size, 0, none⟩), undef, .pointer (some ⟨w.heap.size + 1, 0, none⟩), .pointer (some ⟨bk, 0, none⟩), .pointer (some ⟨Bx, 0, none⟩), .agg #[.slice (some ⟨b, off, none⟩) len cap, .int .i64 turns], .pointer (some ⟨bk, 0, none⟩), .pointer (some ⟨bk, 0, none⟩), .bool true, .pointer (some ⟨bk, 0, none⟩), .int .i64 turn, .func (.func 110) #[] #[.pointer (some ⟨w1.heap.size, 0, none⟩), .pointer (some ⟨w1.heap.size + 1, 0, none⟩)], PVal x, undef, undef, undef], defers := [] })
    (fun x a' s X Y row hs hg hr => by
      obtain ⟨Bx, h2, h3⟩ := hs
      exact ⟨Bx, (hg.block Bx (Array.getElem?_eq_some_iff.1 h2).1 (fun e => by obtain ⟨_, o, ho, hc⟩ := hr Bx e.symm; rw [h2] at ho; cases ho; cases hc)).trans h2, h3⟩)
    ?assign ?body ?done ?stop
  case assign =>
    rintro l pre x W K ⟨hpre, hBW⟩ hK
    gi_wp2
    exact hK _ _ ((KeepsOthers.alloc _ _).from _) ((Below.refl _ _).alloc hBW.size _) ⟨hpre, hBW.alloc hBW.size _⟩ ⟨W.heap.size, World.alloc_heap_new _ _, rfl⟩
  case body =>
    rintro l pre x a' W hl _ ⟨rfl, hBW⟩ ⟨Bx, hbx, rfl⟩ _
    have hS1 : W.heap[w.heap.size + 1]? = some (FO false pd0) := (hBW.block _ (by omega)).trans HS0
    have x0 := blk_cell hbx 0; have x1 := blk_cell hbx 1; have x2 := blk_cell hbx 2; have x3 := blk_cell hbx 3; have x4 := blk_cell hbx 4; have x5 := blk_cell hbx 5; have x6 := blk_cell hbx 6; have x7 := blk_cell hbx 7; have x8 := blk_cell hbx 8; have x9 := blk_cell hbx 9; have x10 := blk_cell hbx 10
    have y0 := blk_cell hS1 0; have y1 := blk_cell hS1 1; have y2 := blk_cell hS1 2; have y3 := blk_cell hS1 3; have y4 := blk_cell hS1 4; have y5 := blk_cell hS1 5; have y6 := blk_cell hS1 6; have y7 := blk_cell hS1 7; have y8 := blk_cell hS1 8; have y9 := blk_cell hS1 9; have y10 := blk_cell hS1 10; have y11 := blk_cell hS1 11
    have z := blk_frozen hS1
    simp only [List.getElem?_toArray, List.getElem?_cons_zero, List.getElem?_cons_succ] at x0 x1 x2 x3 x4 x5 x6 x7 x8 x9 x10 y0 y1 y2 y3 y4 y5 y6 y7 y8 y9 y10 y11
    have HS1 : Hid (W.heap[w.heap.size + 1]? = some (FO false pd0)) := hS1
    have HW : Hid (Below W0.heap.size W0 W) := hBW
    clear hbx hS1 hBW
    gi_wp2_with fail
    exact ⟨(set12_keeps _ _ _ _).from _, ⟨rfl, x, rfl, set12_block HS1.out true x⟩, (hbW.trans (HW.out.mono hws)).trans ((set12_bt _ _ _ _).below (by have := HW.out.size; omega) (by simp))⟩
  case done =>
    rintro D xs W hD rfl ⟨hnil, hBW⟩ hK
    have hS1 : W.heap[w.heap.size + 1]? = some (FO false pd0) := (hBW.block _ (by omega)).trans HS0
    have y0 := blk_cell hS1 0; have y1 := blk_cell hS1 1; have y2 := blk_cell hS1 2; have y3 := blk_cell hS1 3; have y4 := blk_cell hS1 4; have y5 := blk_cell hS1 5; have y6 := blk_cell hS1 6; have y7 := blk_cell hS1 7; have y8 := blk_cell hS1 8; have y9 := blk_cell hS1 9; have y10 := blk_cell hS1 10; have y11 := blk_cell hS1 11
    have z := blk_frozen hS1
    simp only [List.getElem?_toArray, List.getElem?_cons_zero, List.getElem?_cons_succ] at y0 y1 y2 y3 y4 y5 y6 y7 y8 y9 y10 y11
    have HS1 : Hid (W.heap[w.heap.size + 1]? = some (FO false pd0)) := hS1
    have HW : Hid (Below W0.heap.size W0 W) := hBW
    have HK : Hid (W.heap[D]? = some (.deferred (some []))) := hK
    have HA : Hid (aft turn ps = none) := by
      show aft turn ps = none
      rw [ha]
      have := congrArg List.length hnil
      rw [List.length_drop] at this
      exact List.getElem?_eq_none (by simp at this; omega)
    clear hS1 hBW hK hnil
    gi_wp2_with fail
    have hK' : (set12 W (w.heap.size + 1) false pd0).heap[D]? = some (.deferred (some [])) := ((set12_bt W (w.heap.size + 1) false pd0).block D (Array.getElem?_eq_some_iff.1 HK.out).1 (by simp; omega)).trans HK.out
    have hF : ((set12 W (w.heap.size + 1) false pd0).putObj D (.deferred none)).heap[w.heap.size + 1]? = some (FO false pd0) := ((grownBy_putObj' _ D (.deferred none)).block _ (Array.getElem?_eq_some_iff.1 (set12_block HS1.out false pd0)).1 (by simp; omega)).trans (set12_block HS1.out false pd0)
    refine ⟨by simp, .inl ⟨_, _, rfl, run_takeDeferred hK', ?_⟩⟩
    have hBl : Below w.heap.size w (set12 W (w.heap.size + 1) false pd0) := (hbW.trans (HW.out.mono hws)).trans ((set12_bt _ _ _ _).below (by have := HW.out.size; omega) (by simp))
    refine ⟨FV false pd0, ?_, by rw [HA.out]; rfl, hBl.trans (belowK_b (w := W0) hws _ D _ _ hD hK' rfl rfl)⟩
    generalize hWf : World.putObj _ D (Obj.deferred none) = Wf
    have hF' : Wf.heap[w.heap.size + 1]? = some (FO false pd0) := by rw [← hWf]; exact hF
    clear hWf hF
    have r0 := blk_cell hF' 0; have r1 := blk_cell hF' 1; have r2 := blk_cell hF' 2; have r3 := blk_cell hF' 3; have r4 := blk_cell hF' 4; have r5 := blk_cell hF' 5; have r6 := blk_cell hF' 6; have r7 := blk_cell hF' 7; have r8 := blk_cell hF' 8; have r9 := blk_cell hF' 9; have r10 := blk_cell hF' 10; have r11 := blk_cell hF' 11
    simp only [List.getElem?_toArray, List.getElem?_cons_zero, List.getElem?_cons_succ] at r0 r1 r2 r3 r4 r5 r6 r7 r8 r9 r10 r11
    simp [results, Try.f41, go_sem, r0, r1, r2, r3, r4, r5, r6, r7, r8, r9, r10, r11]
  case stop =>
    rintro D c pre W hD hpre ⟨⟨rfl, p, rfl, hF0⟩, hBW⟩ hK
    have HA : Hid (aft turn ps = some p) := by
      show aft turn ps = some p
      rw [ha]
      obtain ⟨t, ht⟩ := hpre
      have : (ps.drop m)[0]? = some p := by rw [← ht]; rfl
      rw [List.getElem?_drop] at this; exact this
    have HK : Hid (W.heap[D]? = some (.deferred (some []))) := hK
    have HF0 : Hid (W.heap[w.heap.size + 1]? = some (FO true p)) := hF0
    have HW : Hid (Below w.heap.size w W) := hBW
    clear hpre hF0 hBW hK
    gi_wp2_with fail
    have hF : (W.putObj D (.deferred none)).heap[w.heap.size + 1]? = some (FO true p) := ((grownBy_putObj' _ D (.deferred none)).block _ (Array.getElem?_eq_some_iff.1 HF0.out).1 (by simp; omega)).trans HF0.out
    refine ⟨by simp, .inl ⟨_, _, rfl, run_takeDeferred HK.out, ?_⟩⟩
    refine ⟨FV true p, ?_, by rw [HA.out]; rfl, HW.out.trans (belowK_b (w := W0) hws _ D _ _ hD HK.out rfl rfl)⟩
    have r0 := blk_cell hF 0; have r1 := blk_cell hF 1; have r2 := blk_cell hF 2; have r3 := blk_cell hF 3; have r4 := blk_cell hF 4; have r5 := blk_cell hF 5; have r6 := blk_cell hF 6; have r7 := blk_cell hF 7; have r8 := blk_cell hF 8; have r9 := blk_cell hF 9; have r10 := blk_cell hF 10; have r11 := blk_cell hF 11
    simp only [List.getElem?_toArray, List.getElem?_cons_zero, List.getElem?_cons_succ] at r0 r1 r2 r3 r4 r5 r6 r7 r8 r9 r10 r11
    simp [results, Try.f41, go_sem, r0, r1, r2, r3, r4, r5, r6, r7, r8, r9, r10, r11]
end Go.Proofs.Ytkipmogmejfmcaa

/-
  OWN WORK. Put of the specification: the list of pairs behind it.
-/
namespace Go.Proofs.Ytkipmogmejfmcaa
open Go.RowKit
attribute [local go_sem] run_store_float
set_option linter.unusedVariables false

def flat (qs : List PD) : List Value := qs.flatMap PD.cells
theorem flat_len (qs : List PD) : (flat qs).length = qs.length * 11 := by
  induction qs with
  | nil => rfl
  | cons q qs ih => simp only [flat, List.flatMap_cons, List.length_append, cells_len, List.length_cons] at ih ⊢; omega
theorem flat_snoc (qs : List PD) (p : PD) : flat (qs ++ [p]) = flat qs ++ p.cells := by simp [flat]

/-- What becomes of a pair. -/
def putQ (key v : VD) (p : PD) : List PD := if p.key.sam key = true then (if v.k = 0 then [] else [PD.mk p.key v p.turn]) else [p]
def outL (key v : VD) (ps : List PD) : List PD := ps.flatMap (putQ key v)
def metL (key : VD) (ps : List PD) : Bool := ps.any fun p => p.key.sam key

/-- A new pair comes. -/
def newQ (ps : List PD) (turns : Int) (key v : VD) : Bool := !metL key ps && !(v.k == 0) && decide (ps.length < 500) && decide (turns < 1000000000000)
def putPs (ps : List PD) (turns : Int) (key v : VD) : List PD := if newQ ps turns key v = true then outL key v ps ++ [⟨key, v, turns + 1⟩] else outL key v ps
def putT (ps : List PD) (turns : Int) (key v : VD) : Int := if newQ ps turns key v = true then turns + 1 else turns

theorem outL_snoc (key v : VD) (ps : List PD) (p : PD) : outL key v (ps ++ [p]) = outL key v ps ++ putQ key v p := by simp [outL]
theorem metL_snoc (key : VD) (ps : List PD) (p : PD) : metL key (ps ++ [p]) = (metL key ps || p.key.sam key) := by simp [metL]
theorem outL_len (key v : VD) (ps : List PD) : (outL key v ps).length ≤ ps.length := by
  induction ps with
  | nil => exact Nat.le_refl _
  | cons p ps ih =>
    have h1 : (putQ key v p).length ≤ 1 := by
      unfold putQ
      split
      · split <;> simp
      · simp
    simp only [outL, List.flatMap_cons, List.length_append, List.length_cons] at ih ⊢
    omega

theorem info_pair : ∃ (i : TypeInfo) (z : Value), Try.prog.info? 60 = some i ∧ i.zero = some z ∧ i.size = 11 ∧ i.bytes = 104 ∧ z.cells.size = 11 := by
  have hc : (Try.prog.info? 60).map (fun i => (i.zero.map (fun z => z.cells.size), i.size, i.bytes)) = some (some 11, 11, 104) := by kernel_rfl
  cases hi : Try.prog.info? 60 with
  | none => rw [hi] at hc; cases hc
  | some i =>
    rw [hi] at hc
    simp only [Option.map_some, Option.some.injEq, Prod.mk.injEq] at hc
    obtain ⟨h1, h2, h3⟩ := hc
    cases hz : i.zero with
    | none => rw [hz] at h1; cases h1
    | some z => rw [hz] at h1; simp at h1; exact ⟨i, z, rfl, hz, h2, h3, h1⟩

/-- An append of one pair to a row of one's own. -/
theorem app_own (base : Nat) (w : World) (sv : Value) (qs : List PD) (p : PD) (nb : Nat) (ty : TypeId) (ho : w.ownsRow base 60 11 sv qs.length (flat qs)) (hn : w.heap[nb]? = some (PO p)) (hl : qs.length ≤ 1048576) (hb : base ≤ w.heap.size) :
    ∃ g' n' cap' w', (Builtin.append_ #[53, 53] ty #[sv, .slice (some ⟨nb, 0, none⟩) 1 1]).run Try.prog w = .ok (.slice (some ⟨g', 0, none⟩) n' cap') w' ∧ w'.ownsRow base 60 11 (.slice (some ⟨g', 0, none⟩) n' cap') (qs ++ [p]).length (flat (qs ++ [p])) ∧ w.grownBy w' sv.ownBlock := by
  obtain ⟨i, z, hi, hz, h1, h2, h3⟩ := info_pair
  obtain ⟨v', w', hr, ho', hg, _⟩ := run_append_own (P := Try.prog) w base 53 ty 60 i z 11 104 Try.underlying53 hi hz h1 h2 h3 (by decide) sv qs.length (flat qs) ho ⟨nb, 0, none⟩ 1 1 p.cells rfl (fun j u hu => by
      show w.cell? (Addr.add ⟨nb, 0, none⟩ j) = some u
      rw [Addr.add_lit, Nat.zero_add, blk_cell hn]
      have e : p.cells.toArray[j]? = some u := by simpa using hu
      exact e) (by
      intro u hu
      simp only [PD.cells, VD.cells, List.cons_append, List.nil_append, List.mem_cons, List.not_mem_nil, or_false] at hu
      rcases hu with rfl | rfl | rfl | rfl | rfl | rfl | rfl | rfl | rfl | rfl | rfl <;> rfl) (by unfold maxLen; omega) (by omega) hb
  have ho2 := ho'.2
  rcases ho2 with ⟨_, h0⟩ | ⟨g', cap', cur, e1, _⟩
  · omega
  · subst e1
    refine ⟨g', _, cap', w', hr, ?_, hg⟩
    rw [flat_snoc, List.length_append]; exact ho'

/-- Five cells of a boxed pair are written. -/
theorem po_set {w : World} {g : Nat} {p : PD} (h : w.heap[g]? = some (PO p)) (v : VD) : (((((w.setCell ⟨g, 5, none⟩ (.int .i64 v.k)).setCell ⟨g, 6, none⟩ (.int .i64 v.n)).setCell ⟨g, 7, none⟩ (.float .f64 v.f)).setCell ⟨g, 8, none⟩ (.string v.s)).setCell ⟨g, 9, none⟩ (.int .i64 v.r)).heap[g]? = some (PO (PD.mk p.key v p.turn)) := by
  have hb := blk_set (blk_set (blk_set (blk_set (blk_set h 5 (.int .i64 v.k)) 6 (.int .i64 v.n)) 7 (.float .f64 v.f)) 8 (.string v.s)) 9 (.int .i64 v.r)
  rw [hb]
  simp
theorem owns_block {base : Nat} {w : World} {sv : Value} {n : Nat} {xs : List Value} (h : w.ownsRow base 60 11 sv n xs) {k : Nat} (hk : k < base) : some k ≠ sv.ownBlock := by
  rcases h.2 with ⟨rfl, _⟩ | ⟨g, cap, cur, rfl, e2, _⟩
  · intro h; cases h
  · intro h
    simp only [Value.ownBlock, Option.some.injEq] at h
    omega
theorem owns_ge {base : Nat} {w : World} {sv : Value} {n : Nat} {xs : List Value} (h : w.ownsRow base 60 11 sv n xs) : ∀ x ∈ sv.ownBlock.toList, base ≤ x := by
  rcases h.2 with ⟨rfl, _⟩ | ⟨g, cap, cur, rfl, e2, _⟩
  · intro x hx; simp [Value.ownBlock] at hx
  · intro x hx
    simp only [Value.ownBlock, Option.toList_some, List.mem_singleton] at hx
    omega
theorem owns_lt {base : Nat} {w : World} {sv : Value} {n : Nat} {xs : List Value} (h : w.ownsRow base 60 11 sv n xs) : ∀ x ∈ sv.ownBlock.toList, x < w.heap.size := by
  rcases h.2 with ⟨rfl, _⟩ | ⟨g, cap, cur, rfl, e2, e3, _⟩
  · intro x hx; simp [Value.ownBlock] at hx
  · intro x hx
    simp only [Value.ownBlock, Option.toList_some, List.mem_singleton] at hx
    subst hx
    exact (Array.getElem?_eq_some_iff.1 e3).1
theorem owns_bty {S : List Nat} {base : Nat} {w w' : World} {sv : Value} {n : Nat} {xs : List Value} (hb : Bt S w w') (hS : ∀ x ∈ S, x ∉ sv.ownBlock.toList) (h : w.ownsRow base 60 11 sv n xs) : w'.ownsRow base 60 11 sv n xs := by
  obtain ⟨h1, h2⟩ := h
  refine ⟨h1, ?_⟩
  rcases h2 with h2 | ⟨g, cap, cur, rfl, e2, e3, e4⟩
  · exact .inl h2
  · exact .inr ⟨g, cap, cur, rfl, e2, (hb.block g (Array.getElem?_eq_some_iff.1 e3).1 (fun hx => hS g hx (by simp [Value.ownBlock]))).trans e3, e4⟩
theorem bt_grown {w w' : World} {row : Option Nat} (h : w.grownBy w' row) : Bt row.toList w w' :=
  ⟨h.os, h.tape, h.output, h.size, fun k hk hn => h.block k hk (fun e => hn (by rw [← e]; simp))⟩

theorem owns_bt {S : List Nat} {base : Nat} {w w' : World} {sv : Value} {n : Nat} {xs : List Value} (hb : Bt S w w') (hS : ∀ x ∈ S, x < base) (h : w.ownsRow base 60 11 sv n xs) : w'.ownsRow base 60 11 sv n xs := by
  obtain ⟨h1, h2⟩ := h
  refine ⟨h1, ?_⟩
  rcases h2 with h2 | ⟨g, cap, cur, e1, e2, e3, e4⟩
  · exact .inl h2
  · exact .inr ⟨g, cap, cur, e1, e2, (hb.block g (Array.getElem?_eq_some_iff.1 e3).1 (fun hx => absurd (hS g hx) (by omega))).trans e3, e4⟩

/-- What lies ahead of the loop: the boxes of the table, the key, the value and the answer. -/
structure PAhead (w : World) (B b off len cap : Nat) (turns : Int) (key v : VD) : Prop where
  t0 : w.cell? ⟨B, 0, none⟩ = some (.slice (some ⟨b, off, none⟩) len cap)
  t1 : w.cell? ⟨B, 1, none⟩ = some (.int .i64 turns)
  kb : VBox w (B + 1) key
  vb : VBox w (B + 2) v
  rb : w.heap[B + 3]? = some (.cells #[.slice none 0 0, .int .i64 0] 55)

theorem PAhead.bt {S : List Nat} {w wx : World} {B b off len cap : Nat} {turns : Int} {key v : VD} (hb : Bt S w wx) (hS : ∀ x ∈ S, B + 4 ≤ x) (h : PAhead w B b off len cap turns key v) : PAhead wx B b off len cap turns key v := by
  have n : ∀ x, x < B + 4 → x ∉ S := fun x hx hm => absurd (hS x hm) (by omega)
  obtain ⟨t0, t1, ⟨k0, k1, k2, k3, k4⟩, ⟨v0, v1, v2, v3, v4⟩, rb⟩ := h
  exact ⟨hb.cell (n _ (by show B < _; omega)) t0, hb.cell (n _ (by show B < _; omega)) t1, ⟨hb.cell (n _ (by show B + 1 < _; omega)) k0, hb.cell (n _ (by show B + 1 < _; omega)) k1, hb.cell (n _ (by show B + 1 < _; omega)) k2, hb.cell (n _ (by show B + 1 < _; omega)) k3, hb.cell (n _ (by show B + 1 < _; omega)) k4⟩, ⟨hb.cell (n _ (by show B + 2 < _; omega)) v0, hb.cell (n _ (by show B + 2 < _; omega)) v1, hb.cell (n _ (by show B + 2 < _; omega)) v2, hb.cell (n _ (by show B + 2 < _; omega)) v3, hb.cell (n _ (by show B + 2 < _; omega)) v4⟩, (hb.block _ (Array.getElem?_eq_some_iff.1 rb).1 (n _ (by omega))).trans rb⟩

/-- What Put leaves: a row of its own. -/
def PutOut (w : World) (ps : List PD) (turns : Int) (key v : VD) (e : Ending) (w' : World) : Prop := ∃ sv, e = .returned (.agg #[sv, .int .i64 (putT ps turns key v)]) ∧ w'.ownsRow w.heap.size 60 11 sv (putPs ps turns key v).length (flat (putPs ps turns key v)) ∧ Below w.heap.size w w'

theorem owns_shape {base : Nat} {w : World} {sv : Value} {n : Nat} {xs : List Value} (h : w.ownsRow base 60 11 sv n xs) : ∃ ao n' cap', sv = .slice ao n' cap' := by
  rcases h.2 with ⟨rfl, _⟩ | ⟨g, cap, cur, rfl, _⟩
  · exact ⟨_, _, _, rfl⟩
  · exact ⟨_, _, _, rfl⟩
theorem owns_mono {base base' : Nat} {w : World} {sv : Value} {n : Nat} {xs : List Value} (hb : base' ≤ base) (h : w.ownsRow base 60 11 sv n xs) : w.ownsRow base' 60 11 sv n xs := by
  obtain ⟨h1, h2⟩ := h
  refine ⟨h1, ?_⟩
  rcases h2 with h2 | ⟨g, cap, cur, e1, e2, e3⟩
  · exact .inl h2
  · exact .inr ⟨g, cap, cur, e1, Nat.le_trans hb e2, e3⟩

/-- append in a plain region, its run being known. -/
theorem wpList_append_run {P : Program} {w : World} {ops : Array Oper} {rest : List Oper} {o : Oper} {a : Act} {Q : Exit → Act → World → Prop} (hgd : o.guard = none) (s x : Operand) (t : TypeId)
    (ho : o.op = .call { callee := .builtin .append, args := #[s, x], argTypes := #[t, t] }) (sv xv v' : Value) (w' : World) (hs : a.eval s = sv) (hx : a.eval x = xv) (hrun : (Builtin.append_ #[t, t] o.type #[sv, xv]).run P w = .ok v' w')
    (h : wpList P ops Q rest (a.put o.dst v') w') : wpList P ops Q (o :: rest) a w :=
  wpList_plain hgd fun _ hK => by
    unfold Oper.wp
    simp [execOp, ho, resolve, invoke, builtin, hs, hx, hrun, Result.andThen]
    exact hK _ _ h

theorem heap5 (w : World) (o p q r s : Obj) : (((((w.alloc o).alloc p).alloc q).alloc r).alloc s).heap[w.heap.size]? = some o ∧ (((((w.alloc o).alloc p).alloc q).alloc r).alloc s).heap[w.heap.size + 1]? = some p ∧ (((((w.alloc o).alloc p).alloc q).alloc r).alloc s).heap[w.heap.size + 2]? = some q ∧ (((((w.alloc o).alloc p).alloc q).alloc r).alloc s).heap[w.heap.size + 3]? = some r ∧ (((((w.alloc o).alloc p).alloc q).alloc r).alloc s).heap[w.heap.size + 4]? = some s := by
  refine ⟨?_, ?_, ?_, ?_, ?_⟩
  · show (((((w.heap.push _).push _).push _).push _).push _)[w.heap.size]? = _
    simp only [Array.getElem?_push, Array.size_push]
    rw [if_neg (by omega), if_neg (by omega), if_neg (by omega), if_neg (by omega), if_pos trivial]
  · show (((((w.heap.push _).push _).push _).push _).push _)[w.heap.size + 1]? = _
    simp only [Array.getElem?_push, Array.size_push]
    rw [if_neg (by omega), if_neg (by omega), if_neg (by omega), if_pos trivial]
  · show (((((w.heap.push _).push _).push _).push _).push _)[w.heap.size + 2]? = _
    simp only [Array.getElem?_push, Array.size_push]
    rw [if_neg (by omega), if_neg (by omega), if_pos trivial]
  · show (((((w.heap.push _).push _).push _).push _).push _)[w.heap.size + 3]? = _
    simp only [Array.getElem?_push, Array.size_push]
    rw [if_neg (by omega), if_pos trivial]
  · show (((((w.heap.push _).push _).push _).push _).push _)[w.heap.size + 4]? = _
    simp only [Array.getElem?_push, Array.size_push]
    rw [if_pos trivial]

set_option maxRecDepth 20000 in
set_option maxHeartbeats 4000000 in
theorem l2put_any (b off len cap : Nat) (ps : List PD) (turns : Int) (key v : VD) (w : World) (hl : ps.length = len) (hp : PAt w b off ps) (hlen : len ≤ 500) (hok : ∀ p ∈ ps, p.ok) (hq : key.ok) (hv : v.ok) (hvk : ∀ p ∈ ps, p.val.k ≠ 0) (ht1 : 0 ≤ turns) (ht2 : turns ≤ 1000000000000) :
    Calls Try.prog 89 #[.agg #[.slice (some ⟨b, off, none⟩) len cap, .int .i64 turns], key.v, v.v] w fun e w' => PutOut w ps turns key v e w' := by
  have HP : Hid (PAt w b off ps) := hp
  have HO : Hid (∀ p ∈ ps, p.ok) := hok
  have HV : Hid (∀ p ∈ ps, p.val.k ≠ 0) := hvk
  clear hp hok hvk
  go_enter Try.func89, Try.ntmps89
  go_wp2_with fail
  obtain ⟨h0, h1, h2, h3, h4⟩ := heap5 w (.cells #[.slice (some ⟨b, off, none⟩) len cap, .int .i64 turns] 55) (VO key.k key.n key.f key.s key.r) (VO v.k v.n v.f v.s v.r) (.cells #[.slice none 0 0, .int .i64 0] 55) (.cells #[.slice none 0 0, .int .i64 turns] 55)
  obtain ⟨wS, hwS⟩ : ∃ wS, wS = ((((w.alloc (.cells #[.slice (some ⟨b, off, none⟩) len cap, .int .i64 turns] 55)).alloc (VO key.k key.n key.f key.s key.r)).alloc (VO v.k v.n v.f v.s v.r)).alloc (.cells #[.slice none 0 0, .int .i64 0] 55)).alloc (.cells #[.slice none 0 0, .int .i64 turns] 55) := ⟨_, rfl⟩
  have hbS : Below w.heap.size w wS := by rw [hwS]; exact bwN (bwN (bw3 _ _ _ _) _) _
  have hsS : wS.heap.size = w.heap.size + 5 := by rw [hwS]; simp
  rw [← hwS] at h0 h1 h2 h3 h4 ⊢
  have HA0 : Hid (PAhead wS w.heap.size b off len cap turns key v) := ⟨by rw [blk_cell h0]; rfl, by rw [blk_cell h0]; rfl, ⟨by rw [blk_cell h1]; rfl, by rw [blk_cell h1]; rfl, by rw [blk_cell h1]; rfl, by rw [blk_cell h1]; rfl, by rw [blk_cell h1]; rfl⟩, ⟨by rw [blk_cell h2]; rfl, by rw [blk_cell h2]; rfl, by rw [blk_cell h2]; rfl, by rw [blk_cell h2]; rfl, by rw [blk_cell h2]; rfl⟩, h3⟩
  have HOB0 : Hid (wS.heap[w.heap.size + 4]? = some (.cells #[.slice none 0 0, .int .i64 turns] 55)) := h4
  clear h0 h1 h2 h3 h4 hwS
  go_loopw [8, 17] (fun mt c wr => ∃ (m : Nat) (sv : Value), m ≤ len ∧ c = .int .i64 m ∧ mt = .bool (metL key (ps.take m)) ∧ Below w.heap.size w wr ∧ w.heap.size + 5 ≤ wr.heap.size ∧ Hid (PAhead wr w.heap.size b off len cap turns key v) ∧ Hid (wr.heap[w.heap.size + 4]? = some (.cells #[sv, .int .i64 turns] 55)) ∧ Hid (wr.ownsRow (w.heap.size + 5) 60 11 sv (outL key v (ps.take m)).length (flat (outL key v (ps.take m))))) (fun _ c _ => len - (intOf c).toNat)
  case atStart => exact ⟨0, .slice none 0 0, Nat.zero_le _, rfl, rfl, hbS, by omega, HA0, HOB0, ⟨rfl, .inl ⟨rfl, rfl⟩⟩⟩
  case round =>
    clear HA0 HOB0 hbS hsS
    obtain ⟨m, sv, hm, rfl, rfl, hB, hsz, hA, hOB, hOw⟩ := hrel
    by_cases k1 : m < len
    · obtain ⟨p, hpm⟩ : ∃ p, ps[m]? = some p := ⟨ps[m]'(by omega), by simp⟩
      have HM : Hid (ps[m]? = some p) := hpm
      have c0 : wr.cell? ⟨b, off + m * 11, none⟩ = some (.int .i64 p.key.k) := cell_later hB (HP.out m p hpm 0 _ rfl)
      have c1 : wr.cell? ⟨b, off + m * 11 + 1, none⟩ = some (.int .i64 p.key.n) := cell_later hB (HP.out m p hpm 1 _ rfl)
      have c2 : wr.cell? ⟨b, off + m * 11 + 2, none⟩ = some (.float .f64 p.key.f) := cell_later hB (HP.out m p hpm 2 _ rfl)
      have c3 : wr.cell? ⟨b, off + m * 11 + 3, none⟩ = some (.string p.key.s) := cell_later hB (HP.out m p hpm 3 _ rfl)
      have c4 : wr.cell? ⟨b, off + m * 11 + 4, none⟩ = some (.int .i64 p.key.r) := cell_later hB (HP.out m p hpm 4 _ rfl)
      have c5 : wr.cell? ⟨b, off + m * 11 + 5, none⟩ = some (.int .i64 p.val.k) := cell_later hB (HP.out m p hpm 5 _ rfl)
      have c6 : wr.cell? ⟨b, off + m * 11 + 6, none⟩ = some (.int .i64 p.val.n) := cell_later hB (HP.out m p hpm 6 _ rfl)
      have c7 : wr.cell? ⟨b, off + m * 11 + 7, none⟩ = some (.float .f64 p.val.f) := cell_later hB (HP.out m p hpm 7 _ rfl)
      have c8 : wr.cell? ⟨b, off + m * 11 + 8, none⟩ = some (.string p.val.s) := cell_later hB (HP.out m p hpm 8 _ rfl)
      have c9 : wr.cell? ⟨b, off + m * 11 + 9, none⟩ = some (.int .i64 p.val.r) := cell_later hB (HP.out m p hpm 9 _ rfl)
      have c10 : wr.cell? ⟨b, off + m * 11 + 10, none⟩ = some (.int .i64 p.turn) := cell_later hB (HP.out m p hpm 10 _ rfl)
      obtain ⟨hpk, hpv, _, _⟩ := HO.out p (List.mem_of_getElem? hpm)
      have hpz : (p.val.k == 0) = false := by simpa using HV.out p (List.mem_of_getElem? hpm)
      obtain ⟨q0, q1, q2, q3, q4⟩ := hA.out.kb
      have hzq := World.block_lt_of_cell? _ _ q0
      clear hpm
      go_wp2_with fail
      refine (ss_any _ _ _ _ _ _ _ _ _ _ _ hpk.2 hq.2 hpk.1 hq.1).mono ?_
      rintro e w1 ⟨rfl, hx⟩
      have pb : w1.heap[wr.heap.size]? = some (PO p) := (hx.block _ (by simp)).trans (by show (wr.heap.push _)[wr.heap.size]? = _; simp)
      obtain ⟨hx1, d0, d1, d2, d3, d4, d5, d6, d7, d8, d9, d10⟩ := box11 hx
      have HB1 : Hid (Below w.heap.size w w1) := hB.trans (hx1.mono hB.size)
      have hs1 := hx1.size
      have HA1 : Hid (PAhead w1 w.heap.size b off len cap turns key v) := hA.out.bt (S := []) (Bt.of_below hx1) (by simp)
      have hOB1 : w1.heap[w.heap.size + 4]? = some (.cells #[sv, .int .i64 turns] 55) := (hx1.block _ (by omega)).trans hOB.out
      have hOw1 : w1.ownsRow (w.heap.size + 5) 60 11 sv (outL key v (ps.take m)).length (flat (outL key v (ps.take m))) := owns_bt (S := []) (Bt.of_below hx1) (by simp) hOw.out
      have hpl : (outL key v (ps.take m)).length ≤ 1048576 := by have := outL_len key v (ps.take m); rw [List.length_take] at this; omega
      have hlt1 : wr.heap.size < w1.heap.size := (Array.getElem?_eq_some_iff.1 pb).1
      have hgl := owns_lt hOw.out
      clear hx hx1 c0 c1 c2 c3 c4 c5 c6 c7 c8 c9 c10 q0 q1 q2 q3 q4 hA hOB hOw hB hzq
      by_cases g1 : p.key.sam key = true
      · have g1' : samV p.key.k p.key.n p.key.f p.key.s p.key.r key.k key.n key.f key.s key.r = true := g1
        have HMt : Hid (metL key (ps.take (m + 1)) = true) := by
          show metL key (ps.take (m + 1)) = _
          rw [take_snoc HM.out, metL_snoc, g1, Bool.or_true]
        obtain ⟨u0, u1, u2, u3, u4⟩ := HA1.out.vb
        have zp := blk_frozen pb
        obtain ⟨wP, hwP⟩ : ∃ wP, wP = ((((w1.setCell ⟨wr.heap.size, 5, none⟩ (.int .i64 v.k)).setCell ⟨wr.heap.size, 6, none⟩ (.int .i64 v.n)).setCell ⟨wr.heap.size, 7, none⟩ (.float .f64 v.f)).setCell ⟨wr.heap.size, 8, none⟩ (.string v.s)).setCell ⟨wr.heap.size, 9, none⟩ (.int .i64 v.r) := ⟨_, rfl⟩
        have hbP : Bt [wr.heap.size] w1 wP := by rw [hwP]; exact (((((Bt.refl [wr.heap.size] w1).setCell (p := ⟨wr.heap.size, 5, none⟩) (by simp) _).setCell (p := ⟨wr.heap.size, 6, none⟩) (by simp) _).setCell (p := ⟨wr.heap.size, 7, none⟩) (by simp) _).setCell (p := ⟨wr.heap.size, 8, none⟩) (by simp) _).setCell (p := ⟨wr.heap.size, 9, none⟩) (by simp) _
        have pbP : wP.heap[wr.heap.size]? = some (PO (PD.mk p.key v p.turn)) := by rw [hwP]; exact po_set pb v
        have HBP : Hid (Below w.heap.size w wP) := HB1.out.trans (hbP.below (by have := HB1.out.size; omega) (by simp; omega))
        have HAP : Hid (PAhead wP w.heap.size b off len cap turns key v) := HA1.out.bt hbP (by simp; omega)
        have hOBP : wP.heap[w.heap.size + 4]? = some (.cells #[sv, .int .i64 turns] 55) := (hbP.block _ (by omega) (by simp; omega)).trans hOB1
        have hsP := hbP.size
        have hOwP0 : wP.ownsRow (w.heap.size + 5) 60 11 sv (outL key v (ps.take m)).length (flat (outL key v (ps.take m))) := owns_bty hbP (fun x hx hm => by simp at hx; have := hgl x hm; omega) hOw1
        go_upto_region 9 with fail
        rw [← hwP]
        clear hwP zp u0 u1 u2 u3 u4 d0 d1 d2 d3 d4 d5 d6 d7 d8 d9 d10
        have r0 := blk_cell pbP 0; have r1 := blk_cell pbP 1; have r2 := blk_cell pbP 2; have r3 := blk_cell pbP 3; have r4 := blk_cell pbP 4; have r5 := blk_cell pbP 5; have r6 := blk_cell pbP 6; have r7 := blk_cell pbP 7; have r8 := blk_cell pbP 8; have r9 := blk_cell pbP 9; have r10 := blk_cell pbP 10
        simp only [List.getElem?_toArray, List.getElem?_cons_zero, List.getElem?_cons_succ] at r0 r1 r2 r3 r4 r5 r6 r7 r8 r9 r10
        by_cases g2 : v.k = 0
        · have HT : Hid (outL key v (ps.take (m + 1)) = outL key v (ps.take m)) := by
            show outL key v (ps.take (m + 1)) = _
            rw [take_snoc HM.out, outL_snoc]; unfold putQ; rw [if_pos g1, if_pos g2, List.append_nil]
          have HOBP : Hid (wP.heap[w.heap.size + 4]? = some (.cells #[sv, .int .i64 turns] 55)) := hOBP
          have HOwP : Hid (wP.ownsRow (w.heap.size + 5) 60 11 sv (outL key v (ps.take m)).length (flat (outL key v (ps.take m)))) := hOwP0
          go_wp2_with fail
          go_roundw
          case rel => exact ⟨m + 1, sv, by omega, by go_num, by rw [HMt.out], HBP.out, by omega, HAP, HOBP, by show wP.ownsRow _ _ _ _ _ _; rw [HT.out]; exact HOwP.out⟩
          case measure => simp [intOf]; omega
        · have g2' : (v.k == 0) = false := by simpa using g2
          have HT : Hid (outL key v (ps.take (m + 1)) = outL key v (ps.take m) ++ [PD.mk p.key v p.turn]) := by
            show outL key v (ps.take (m + 1)) = _
            rw [take_snoc HM.out, outL_snoc]; unfold putQ; rw [if_pos g1, if_neg g2]
          have hOwP : wP.ownsRow (w.heap.size + 5) 60 11 sv (outL key v (ps.take m)).length (flat (outL key v (ps.take m))) := hOwP0
          have hy := bw1 wP (PO (PD.mk p.key v p.turn))
          obtain ⟨g', n', cap', w2, hr, ho', hg⟩ := app_own (w.heap.size + 5) (wP.alloc (PO (PD.mk p.key v p.turn))) sv (outL key v (ps.take m)) (PD.mk p.key v p.turn) wP.heap.size 53 (owns_bt (S := []) (Bt.of_below hy) (by simp) hOwP) (by show (wP.heap.push _)[wP.heap.size]? = _; simp) hpl (by simp; omega)
          have hne := owns_block hOwP (k := w.heap.size + 4) (by omega)
          have hOB2 : w2.heap[w.heap.size + 4]? = some (.cells #[sv, .int .i64 turns] 55) := (hg.block _ (by simp; omega) hne).trans ((hy.block _ (by omega)).trans hOBP)
          have f0 : wP.cell? ⟨w.heap.size + 4, 0, none⟩ = some sv := by rw [blk_cell hOBP]; rfl
          have f1 : w2.cell? ⟨w.heap.size + 4, 0, none⟩ = some sv := by rw [blk_cell hOB2]; rfl
          have z1 := blk_frozen hOB2
          have HR : Hid ((Builtin.append_ #[53, 53] 53 #[sv, .slice (some ⟨wP.heap.size, 0, none⟩) 1 1]).run Try.prog (wP.alloc (PO (PD.mk p.key v p.turn))) = .ok (.slice (some ⟨g', 0, none⟩) n' cap') w2) := hr
          have HG : Hid ((wP.alloc (PO (PD.mk p.key v p.turn))).grownBy w2 sv.ownBlock) := hg
          have HO2 : Hid (w2.ownsRow (w.heap.size + 5) 60 11 (.slice (some ⟨g', 0, none⟩) n' cap') (outL key v (ps.take m) ++ [PD.mk p.key v p.turn]).length (flat (outL key v (ps.take m) ++ [PD.mk p.key v p.turn]))) := ho'
          have HOB2 : Hid (w2.heap[w.heap.size + 4]? = some (.cells #[sv, .int .i64 turns] 55)) := hOB2
          clear hr hg ho' hOB2
          go_wp2_with (at_builtin; refine wpList_append_run rfl _ _ _ rfl _ _ _ _ rfl rfl HR.out ?_)
          clear f0 f1 z1
          go_roundw
          case rel =>
            have hge := owns_ge hOwP
            have hbt : Bt ((w.heap.size + 4) :: sv.ownBlock.toList) wP (w2.setCell ⟨w.heap.size + 4, 0, none⟩ (.slice (some ⟨g', 0, none⟩) n' cap')) := (((Bt.of_below (S := (w.heap.size + 4) :: sv.ownBlock.toList) hy).trans ((bt_grown HG.out).mono (fun x hx => List.mem_cons_of_mem _ hx))).setCell (p := ⟨w.heap.size + 4, 0, none⟩) (by simp) _)
            have hS : ∀ x ∈ (w.heap.size + 4) :: sv.ownBlock.toList, w.heap.size + 4 ≤ x := fun x hx => by
              rcases List.mem_cons.1 hx with rfl | hx
              · exact Nat.le_refl _
              · have := hge x hx; omega
            refine ⟨m + 1, .slice (some ⟨g', 0, none⟩) n' cap', by omega, by go_num, by rw [HMt.out], HBP.out.trans (hbt.below (by have := HBP.out.size; omega) (fun x hx => by have := hS x hx; omega)), Nat.le_trans (by omega) hbt.size, HAP.out.bt hbt hS, ?_, ?_⟩
            · show (w2.setCell ⟨w.heap.size + 4, 0, none⟩ (.slice (some ⟨g', 0, none⟩) n' cap')).heap[w.heap.size + 4]? = some (.cells #[.slice (some ⟨g', 0, none⟩) n' cap', .int .i64 turns] 55)
              rw [blk_set HOB2.out]; simp
            · show (w2.setCell ⟨w.heap.size + 4, 0, none⟩ (.slice (some ⟨g', 0, none⟩) n' cap')).ownsRow (w.heap.size + 5) 60 11 (.slice (some ⟨g', 0, none⟩) n' cap') (outL key v (ps.take (m + 1))).length (flat (outL key v (ps.take (m + 1))))
              rw [HT.out]
              exact owns_bt (S := [w.heap.size + 4]) ((Bt.refl _ _).setCell (p := ⟨w.heap.size + 4, 0, none⟩) (by simp) _) (by simp) HO2.out
          case measure => simp [intOf]; omega
      · replace g1 : p.key.sam key = false := by simpa using g1
        have g1' : samV p.key.k p.key.n p.key.f p.key.s p.key.r key.k key.n key.f key.s key.r = false := g1
        have HT : Hid (outL key v (ps.take (m + 1)) = outL key v (ps.take m) ++ [p]) := by
          show outL key v (ps.take (m + 1)) = _
          rw [take_snoc HM.out, outL_snoc]; unfold putQ; rw [if_neg (by simp [g1])]
        have HMt : Hid (metL key (ps.take (m + 1)) = metL key (ps.take m)) := by
          show metL key (ps.take (m + 1)) = _
          rw [take_snoc HM.out, metL_snoc, g1, Bool.or_false]
        have hy := bw1 w1 (PO p)
        obtain ⟨g', n', cap', w2, hr, ho', hg⟩ := app_own (w.heap.size + 5) (w1.alloc (PO p)) sv (outL key v (ps.take m)) p w1.heap.size 53 (owns_bt (S := []) (Bt.of_below hy) (by simp) hOw1) (by show (w1.heap.push _)[w1.heap.size]? = _; simp) hpl (by simp; omega)
        have hne := owns_block hOw1 (k := w.heap.size + 4) (by omega)
        have hOB2 : w2.heap[w.heap.size + 4]? = some (.cells #[sv, .int .i64 turns] 55) := (hg.block _ (by simp; omega) hne).trans ((hy.block _ (by omega)).trans hOB1)
        have f0 : w1.cell? ⟨w.heap.size + 4, 0, none⟩ = some sv := by rw [blk_cell hOB1]; rfl
        have f1 : w2.cell? ⟨w.heap.size + 4, 0, none⟩ = some sv := by rw [blk_cell hOB2]; rfl
        have z1 := blk_frozen hOB2
        have HR : Hid ((Builtin.append_ #[53, 53] 53 #[sv, .slice (some ⟨w1.heap.size, 0, none⟩) 1 1]).run Try.prog (w1.alloc (PO p)) = .ok (.slice (some ⟨g', 0, none⟩) n' cap') w2) := hr
        have HG : Hid ((w1.alloc (PO p)).grownBy w2 sv.ownBlock) := hg
        have HO2 : Hid (w2.ownsRow (w.heap.size + 5) 60 11 (.slice (some ⟨g', 0, none⟩) n' cap') (outL key v (ps.take m) ++ [p]).length (flat (outL key v (ps.take m) ++ [p]))) := ho'
        have HOB2 : Hid (w2.heap[w.heap.size + 4]? = some (.cells #[sv, .int .i64 turns] 55)) := hOB2
        clear hr hg ho' hOB2
        go_wp2_with (at_builtin; refine wpList_append_run rfl _ _ _ rfl _ _ _ _ rfl rfl HR.out ?_)
        clear f0 f1 z1
        go_roundw
        case rel =>
          have hge := owns_ge hOw1
          have hbt : Bt ((w.heap.size + 4) :: sv.ownBlock.toList) w1 (w2.setCell ⟨w.heap.size + 4, 0, none⟩ (.slice (some ⟨g', 0, none⟩) n' cap')) := (((Bt.of_below (S := (w.heap.size + 4) :: sv.ownBlock.toList) hy).trans ((bt_grown HG.out).mono (fun x hx => List.mem_cons_of_mem _ hx))).setCell (p := ⟨w.heap.size + 4, 0, none⟩) (by simp) _)
          have hS : ∀ x ∈ (w.heap.size + 4) :: sv.ownBlock.toList, w.heap.size + 4 ≤ x := fun x hx => by
            rcases List.mem_cons.1 hx with rfl | hx
            · exact Nat.le_refl _
            · have := hge x hx; omega
          refine ⟨m + 1, .slice (some ⟨g', 0, none⟩) n' cap', by omega, by go_num, by rw [HMt.out], HB1.out.trans (hbt.below (by have := HB1.out.size; omega) (fun x hx => by have := hS x hx; omega)), Nat.le_trans (by omega) hbt.size, HA1.out.bt hbt hS, ?_, ?_⟩
          · show (w2.setCell ⟨w.heap.size + 4, 0, none⟩ (.slice (some ⟨g', 0, none⟩) n' cap')).heap[w.heap.size + 4]? = some (.cells #[.slice (some ⟨g', 0, none⟩) n' cap', .int .i64 turns] 55)
            rw [blk_set HOB2.out]; simp
          · show (w2.setCell ⟨w.heap.size + 4, 0, none⟩ (.slice (some ⟨g', 0, none⟩) n' cap')).ownsRow (w.heap.size + 5) 60 11 (.slice (some ⟨g', 0, none⟩) n' cap') (outL key v (ps.take (m + 1))).length (flat (outL key v (ps.take (m + 1))))
            rw [HT.out]
            exact owns_bt (S := [w.heap.size + 4]) ((Bt.refl _ _).setCell (p := ⟨w.heap.size + 4, 0, none⟩) (by simp) _) (by simp) HO2.out
        case measure => simp [intOf]; omega
    · have hml : m = len := by omega
      rw [hml, List.take_of_length_le (by omega)] at hOw
      have hmt : metL key (ps.take m) = metL key ps := by rw [hml, List.take_of_length_le (by omega)]
      rw [hmt]
      obtain ⟨ao, n', cap', rfl⟩ := owns_shape hOw.out
      have y0 := blk_cell hOB.out 0
      have y1 := blk_cell hOB.out 1
      have x0 := blk_cell hA.out.rb 0
      have x1 := blk_cell hA.out.rb 1
      have zx := blk_frozen hA.out.rb
      have t0 := hA.out.t0
      have t1 := hA.out.t1
      obtain ⟨u0, u1, u2, u3, u4⟩ := hA.out.vb
      simp only [List.getElem?_toArray, List.getElem?_cons_zero, List.getElem?_cons_succ] at y0 y1 x0 x1
      clear hmt hml
      by_cases hN : newQ ps turns key v = true
      · have HN : Hid (putPs ps turns key v = outL key v ps ++ [PD.mk key v (turns + 1)] ∧ putT ps turns key v = turns + 1) := by
          show putPs ps turns key v = outL key v ps ++ [PD.mk key v (turns + 1)] ∧ putT ps turns key v = turns + 1
          unfold putPs putT; rw [if_pos hN, if_pos hN]; exact ⟨rfl, rfl⟩
        have hN' := hN
        unfold newQ at hN'
        simp only [Bool.and_eq_true, Bool.not_eq_true', decide_eq_true_eq] at hN'
        obtain ⟨⟨⟨hm, hk⟩, hln⟩, htn⟩ := hN'
        have hk2 : (v.k != 0) = true := by simpa using hk
        have hln2 : decide ((len : Int) < 500) = true := by simp; omega
        have htn2 : decide (turns < 1000000000000) = true := by simpa using htn
        obtain ⟨q0, q1, q2, q3, q4⟩ := hA.out.kb
        obtain ⟨wA, hwA⟩ : ∃ wA, wA = wr.setCell ⟨w.heap.size + 4, 1, none⟩ (.int .i64 (turns + 1)) := ⟨_, rfl⟩
        have hbA : Bt [w.heap.size + 4] wr wA := by rw [hwA]; exact (Bt.refl _ _).setCell (p := ⟨w.heap.size + 4, 1, none⟩) (by simp) _
        have hOBA : wA.heap[w.heap.size + 4]? = some (.cells #[.slice ao n' cap', .int .i64 (turns + 1)] 55) := by rw [hwA, blk_set hOB.out]; simp
        have hAA := hA.out.bt hbA (by simp)
        have hOwA := owns_bt hbA (by simp) hOw.out
        have hsA := hbA.size
        have hy := bw1 wA (PO (PD.mk key v (turns + 1)))
        have hpl : (outL key v ps).length ≤ 1048576 := by have := outL_len key v ps; omega
        obtain ⟨g', n2, cap2, w2, hr, ho', hg⟩ := app_own (w.heap.size + 5) (wA.alloc (PO (PD.mk key v (turns + 1)))) (.slice ao n' cap') (outL key v ps) (PD.mk key v (turns + 1)) wA.heap.size 53 (owns_bt (S := []) (Bt.of_below hy) (by simp) hOwA) (by show (wA.heap.push _)[wA.heap.size]? = _; simp) hpl (by simp; omega)
        have hne := owns_block hOwA (k := w.heap.size + 4) (by omega)
        have hne3 := owns_block hOwA (k := w.heap.size + 3) (by omega)
        have hOB2 : w2.heap[w.heap.size + 4]? = some (.cells #[.slice ao n' cap', .int .i64 (turns + 1)] 55) := (hg.block _ (by simp; omega) hne).trans ((hy.block _ (by omega)).trans hOBA)
        have hR2 : w2.heap[w.heap.size + 3]? = some (.cells #[.slice none 0 0, .int .i64 0] 55) := (hg.block _ (by simp; omega) hne3).trans ((hy.block _ (by omega)).trans hAA.rb)
        have zOB := blk_frozen hOB.out
        have a0 := blk_cell hOBA 0; have a1 := blk_cell hOBA 1
        have b0 := blk_cell hOB2 0; have b1 := blk_cell hOB2 1; have zB := blk_frozen hOB2
        have e0 := blk_cell hR2 0; have e1 := blk_cell hR2 1; have zR := blk_frozen hR2
        simp only [List.getElem?_toArray, List.getElem?_cons_zero, List.getElem?_cons_succ] at a0 a1 b0 b1 e0 e1
        obtain ⟨s0, s1, s2, s3, s4⟩ := hAA.kb
        obtain ⟨p0, p1, p2, p3, p4⟩ := hAA.vb
        have HR : Hid ((Builtin.append_ #[53, 53] 53 #[.slice ao n' cap', .slice (some ⟨wA.heap.size, 0, none⟩) 1 1]).run Try.prog (wA.alloc (PO (PD.mk key v (turns + 1)))) = .ok (.slice (some ⟨g', 0, none⟩) n2 cap2) w2) := hr
        have HG : Hid ((wA.alloc (PO (PD.mk key v (turns + 1)))).grownBy w2 (Value.slice ao n' cap').ownBlock) := hg
        have HO2 : Hid (w2.ownsRow (w.heap.size + 5) 60 11 (.slice (some ⟨g', 0, none⟩) n2 cap2) (outL key v ps ++ [PD.mk key v (turns + 1)]).length (flat (outL key v ps ++ [PD.mk key v (turns + 1)]))) := ho'
        have HBA : Hid (Bt [w.heap.size + 4] wr wA) := hbA
        have hge := owns_ge hOwA
        have HGE : Hid (∀ x ∈ (Value.slice ao n' cap').ownBlock.toList, w.heap.size + 5 ≤ x) := hge
        clear hr hg ho' hge hne hne3 hOB2 hR2 hOBA hbA hN hOwA hAA
        go_upto_region 14 with fail
        rw [← hwA]; clear hwA y0 y1 x0 x1 zx zOB t0 t1 u0 u1 u2 u3 u4 q0 q1 q2 q3 q4
        go_wp2_with (at_builtin; refine wpList_append_run rfl _ _ _ rfl _ _ _ _ rfl rfl HR.out ?_)
        have hbF : Bt [w.heap.size + 4, w.heap.size + 3] w2 (((w2.setCell ⟨w.heap.size + 4, 0, none⟩ (.slice (some ⟨g', 0, none⟩) n2 cap2)).setCell ⟨w.heap.size + 3, 0, none⟩ (.slice (some ⟨g', 0, none⟩) n2 cap2)).setCell ⟨w.heap.size + 3, 1, none⟩ (.int .i64 (turns + 1))) := (((Bt.refl _ _).setCell (p := ⟨w.heap.size + 4, 0, none⟩) (by simp) _).setCell (p := ⟨w.heap.size + 3, 0, none⟩) (by simp) _).setCell (p := ⟨w.heap.size + 3, 1, none⟩) (by simp) _
        refine bodyPost_ret (v := .agg #[.slice (some ⟨g', 0, none⟩) n2 cap2, .int .i64 (turns + 1)]) (by simp [results, Try.results89, go_sem, e0, e1]) rfl ⟨.slice (some ⟨g', 0, none⟩) n2 cap2, by rw [HN.out.2], ?_, ?_⟩
        · rw [HN.out.1]
          exact owns_mono (by omega) (owns_bt hbF (by simp) HO2.out)
        · have h1 := HBA.out.below (B := w.heap.size) (by omega) (by simp)
          have h2 := (bt_grown HG.out).below (B := w.heap.size) (by simp; omega) (fun x hx => by have := HGE.out x hx; omega)
          have hy2 := (hy.mono (B' := w.heap.size) (by omega)).trans h2
          exact ((hB.trans h1).trans hy2).trans (hbF.below (by have := hy2.size; omega) (by simp))
      · have HN : Hid (putPs ps turns key v = outL key v ps ∧ putT ps turns key v = turns) := by
          show putPs ps turns key v = outL key v ps ∧ putT ps turns key v = turns
          unfold putPs putT; rw [if_neg hN, if_neg hN]; exact ⟨rfl, rfl⟩
        have hend : ∀ {e : Ending}, e = .returned (.agg #[.slice ao n' cap', .int .i64 turns]) → PutOut w ps turns key v e ((wr.setCell ⟨w.heap.size + 3, 0, none⟩ (.slice ao n' cap')).setCell ⟨w.heap.size + 3, 1, none⟩ (.int .i64 turns)) := by
          intro e he
          have hbt : Bt [w.heap.size + 3] wr ((wr.setCell ⟨w.heap.size + 3, 0, none⟩ (.slice ao n' cap')).setCell ⟨w.heap.size + 3, 1, none⟩ (.int .i64 turns)) := ((Bt.refl _ _).setCell (p := ⟨w.heap.size + 3, 0, none⟩) (by simp) _).setCell (p := ⟨w.heap.size + 3, 1, none⟩) (by simp) _
          refine ⟨_, by rw [HN.out.2]; exact he, ?_, hB.trans (hbt.below (by omega) (by simp))⟩
          rw [HN.out.1]
          exact owns_mono (by omega) (owns_bt hbt (by simp) hOw.out)
        by_cases hm : metL key ps = true
        · go_wp2_with fail
          exact bodyPost_ret (v := .agg #[.slice ao n' cap', .int .i64 turns]) (by simp [results, Try.results89, go_sem, x0, x1]) rfl (hend rfl)
        replace hm : metL key ps = false := by simpa using hm
        by_cases hk : (v.k == 0) = true
        · have hk2 : (v.k != 0) = false := by simpa using hk
          go_wp2_with fail
          exact bodyPost_ret (v := .agg #[.slice ao n' cap', .int .i64 turns]) (by simp [results, Try.results89, go_sem, x0, x1]) rfl (hend rfl)
        replace hk : (v.k == 0) = false := by simpa using hk
        have hk2 : (v.k != 0) = true := by simpa using hk
        by_cases hln : len < 500
        · have hln2 : decide ((len : Int) < 500) = true := by simp; omega
          have htn : ¬ turns < 1000000000000 := by
            intro h
            apply hN
            unfold newQ
            rw [hm, hk, hl, decide_eq_true hln, decide_eq_true h]; rfl
          have htn2 : decide (turns < 1000000000000) = false := by simpa using htn
          go_wp2_with fail
          exact bodyPost_ret (v := .agg #[.slice ao n' cap', .int .i64 turns]) (by simp [results, Try.results89, go_sem, x0, x1]) rfl (hend rfl)
        · have hln2 : decide ((len : Int) < 500) = false := by simp; omega
          go_wp2_with fail
          exact bodyPost_ret (v := .agg #[.slice ao n' cap', .int .i64 turns]) (by simp [results, Try.results89, go_sem, x0, x1]) rfl (hend rfl)
end Go.Proofs.Ytkipmogmejfmcaa

/-
  OWN WORK. Put of the specification, whole.
-/
namespace Go.Proofs.Ytkipmogmejfmcaa
open Go.RowKit
attribute [local go_sem] run_store_float
set_option linter.unusedVariables false

/-- Table, key and value may be put together. -/
def putGood (ps : List PD) (turns : Int) (k v : VD) : Bool := tokV ps turns && vok v.k v.n v.f v.s v.r && ((keyD k).1 == 0)
/-- The pairs and the turns behind Put. -/
def ansL (ps : List PD) (turns : Int) (k v : VD) : List PD := if putGood ps turns k v = true then putPs ps turns (keyD k).2 v else []
def ansT (ps : List PD) (turns : Int) (k v : VD) : Int := if putGood ps turns k v = true then putT ps turns (keyD k).2 v else 0

/-- What Put leaves, whatever it is given. -/
def PutRes (w : World) (ps : List PD) (turns : Int) (k v : VD) (e : Ending) (w' : World) : Prop := ∃ sv, e = .returned (.agg #[sv, .int .i64 (ansT ps turns k v)]) ∧ w'.ownsRow w.heap.size 60 11 sv (ansL ps turns k v).length (flat (ansL ps turns k v)) ∧ Below w.heap.size w w'

theorem tokL_val {turns : Int} {rest : List PD} : ∀ {ds : List PD} {last : Int}, tokL turns ds rest last = true → ∀ p ∈ rest, p.val.k ≠ 0 := by
  induction rest with
  | nil => intro ds last _ p hp; cases hp
  | cons d rest ih =>
    intro ds last h p hp
    unfold tokL at h
    simp only [Bool.and_eq_true] at h
    rcases List.mem_cons.1 hp with rfl | hp
    · have := h.1.1.1.1.2; simpa using this
    · exact ih h.2 p hp
theorem tokV_val {ps : List PD} {turns : Int} (h : tokV ps turns = true) : ∀ p ∈ ps, p.val.k ≠ 0 := by
  unfold tokV at h
  simp only [Bool.and_eq_true] at h
  exact tokL_val h.2

theorem heap4 (w : World) (o p q r : Obj) : ((((w.alloc o).alloc p).alloc q).alloc r).heap[w.heap.size]? = some o ∧ ((((w.alloc o).alloc p).alloc q).alloc r).heap[w.heap.size + 1]? = some p ∧ ((((w.alloc o).alloc p).alloc q).alloc r).heap[w.heap.size + 2]? = some q ∧ ((((w.alloc o).alloc p).alloc q).alloc r).heap[w.heap.size + 3]? = some r := by
  refine ⟨?_, ?_, ?_, ?_⟩
  · show ((((w.heap.push _).push _).push _).push _)[w.heap.size]? = _
    simp only [Array.getElem?_push, Array.size_push]
    rw [if_neg (by omega), if_neg (by omega), if_neg (by omega), if_pos trivial]
  · show ((((w.heap.push _).push _).push _).push _)[w.heap.size + 1]? = _
    simp only [Array.getElem?_push, Array.size_push]
    rw [if_neg (by omega), if_neg (by omega), if_pos trivial]
  · show ((((w.heap.push _).push _).push _).push _)[w.heap.size + 2]? = _
    simp only [Array.getElem?_push, Array.size_push]
    rw [if_neg (by omega), if_pos trivial]
  · show ((((w.heap.push _).push _).push _).push _)[w.heap.size + 3]? = _
    simp only [Array.getElem?_push, Array.size_push]
    rw [if_pos trivial]

set_option maxRecDepth 20000 in
set_option maxHeartbeats 2000000 in
theorem sput_any (b off len cap : Nat) (ps : List PD) (turns : Int) (k v : VD) (w : World) (hl : ps.length = len) (hp : PAt w b off ps) (hlen : len ≤ 1048576) (hok : ∀ p ∈ ps, p.ok) (hk : k.ok) (hv : v.ok) :
    Calls Try.prog 48 #[.agg #[.slice (some ⟨b, off, none⟩) len cap, .int .i64 turns], k.v, v.v] w fun e w' => PutRes w ps turns k v e w' := by
  have HP : Hid (PAt w b off ps) := hp
  have HO : Hid (∀ p ∈ ps, p.ok) := hok
  obtain ⟨qc, hqc⟩ : ∃ qc, qc = (keyD k).1 := ⟨_, rfl⟩
  obtain ⟨q, hq'⟩ : ∃ q, q = (keyD k).2 := ⟨_, rfl⟩
  have hU := keyV_D k
  rw [← hqc, ← hq'] at hU
  have HU : Hid (keyV k.k k.n k.f k.s k.r = RV qc q.k q.n q.f q.s q.r) := hU
  have HQC : Hid (qc = (keyD k).1) := hqc
  have HQ' : Hid (q = (keyD k).2) := hq'
  clear hp hok hqc hq' hU
  go_enter Try.func48, Try.ntmps48
  go_wp2_with fail
  refine (sk_any _ _ _ _ _ _ hk.2 hk.1).mono ?_
  rw [HU.out]
  rintro e w1 ⟨rfl, hx⟩
  obtain ⟨h0, h1, h2, h3⟩ := heap4 w (.cells #[.slice (some ⟨b, off, none⟩) len cap, .int .i64 turns] 55) (VO k.k k.n k.f k.s k.r) (VO v.k v.n v.f v.s v.r) (.cells #[.slice none 0 0, .int .i64 0] 55)
  have b0 := (hx.block w.heap.size (by simp; omega)).trans h0
  have b2 := (hx.block (w.heap.size + 2) (by simp)).trans h2
  have b3 := (hx.block (w.heap.size + 3) (by simp)).trans h3
  have hb : Below w.heap.size w w1 := (bwN (bw3 _ _ _ _) _).trans (hx.mono (by simp; omega))
  have hz1 : w.heap.size + 3 < w1.heap.size := (Array.getElem?_eq_some_iff.1 b3).1
  clear hx h0 h1 h2 h3
  have hy := bw1 w1 (.cells #[.int .i64 qc, .int .i64 q.k, .int .i64 q.n, .float .f64 q.f, .string q.s, .int .i64 q.r] 43)
  have t0 : w1.cell? ⟨w.heap.size, 0, none⟩ = some (.slice (some ⟨b, off, none⟩) len cap) := by rw [blk_cell b0]; rfl
  have t1 : w1.cell? ⟨w.heap.size, 1, none⟩ = some (.int .i64 turns) := by rw [blk_cell b0]; rfl
  have y0 := cell_later hy t0; have y1 := cell_later hy t1
  have hzz : w.heap.size < w1.heap.size := by omega
  go_wp2_with fail
  refine (tok_any b off len cap ps turns _ hl (by exact HP.out.later (hb.trans (hy.mono hb.size))) hlen HO.out).mono ?_
  rintro e w2 ⟨rfl, hx⟩
  have kb : w2.heap[w1.heap.size]? = some (.cells #[.int .i64 qc, .int .i64 q.k, .int .i64 q.n, .float .f64 q.f, .string q.s, .int .i64 q.r] 43) := (hx.block _ (by simp)).trans (by show (w1.heap.push _)[w1.heap.size]? = _; simp)
  have hz := hy.trans (hx.mono hy.size)
  have b0' := (hz.block w.heap.size (by omega)).trans b0
  have b2' := (hz.block (w.heap.size + 2) (by omega)).trans b2
  have b3' := (hz.block (w.heap.size + 3) (by omega)).trans b3
  have HB2 : Hid (Below w.heap.size w w2) := hb.trans (hz.mono hb.size)
  have hs2 := hz.size
  clear hx hy hz t0 t1 y0 y1 b0 b2 b3 hb
  have t0 := blk_cell b0' 0; have t1 := blk_cell b0' 1
  have v0 := blk_cell b2' 0; have v1 := blk_cell b2' 1; have v2 := blk_cell b2' 2; have v3 := blk_cell b2' 3; have v4 := blk_cell b2' 4
  have r0 := blk_cell b3' 0; have r1 := blk_cell b3' 1; have zr := blk_frozen b3'
  have c0 := blk_cell kb 0; have c1 := blk_cell kb 1; have c2 := blk_cell kb 2; have c3 := blk_cell kb 3; have c4 := blk_cell kb 4; have c5 := blk_cell kb 5
  simp only [List.getElem?_toArray, List.getElem?_cons_zero, List.getElem?_cons_succ] at t0 t1 v0 v1 v2 v3 v4 r0 r1 c0 c1 c2 c3 c4 c5
  have HBk : Hid (w2.heap[w1.heap.size]? = some (.cells #[.int .i64 qc, .int .i64 q.k, .int .i64 q.n, .float .f64 q.f, .string q.s, .int .i64 q.r] 43)) := kb
  have HB0 : Hid (w2.heap[w.heap.size]? = some (.cells #[.slice (some ⟨b, off, none⟩) len cap, .int .i64 turns] 55)) := b0'
  have HBv : Hid (w2.heap[w.heap.size + 2]? = some (VO v.k v.n v.f v.s v.r)) := b2'
  have HBr : Hid (w2.heap[w.heap.size + 3]? = some (.cells #[.slice none 0 0, .int .i64 0] 55)) := b3'
  clear kb b0' b2' b3'
  have hbad : ∀ (wx : World), putGood ps turns k v = false → Below w.heap.size w wx → ∀ {e : Ending}, e = .returned (.agg #[.slice none 0 0, .int .i64 0]) → PutRes w ps turns k v e ((wx.setCell ⟨w.heap.size + 3, 0, none⟩ (.slice none 0 0)).setCell ⟨w.heap.size + 3, 1, none⟩ (.int .i64 0)) := by
    intro wx hg hbx e he
    have e1 : ansL ps turns k v = [] := by unfold ansL; rw [if_neg (by simp [hg])]
    have e2 : ansT ps turns k v = 0 := by unfold ansT; rw [if_neg (by simp [hg])]
    exact ⟨.slice none 0 0, by rw [e2]; exact he, ⟨by rw [e1]; rfl, .inl ⟨rfl, by rw [e1]; rfl⟩⟩, (hbx.setCell (p := ⟨w.heap.size + 3, 0, none⟩) (by simp) _).setCell (p := ⟨w.heap.size + 3, 1, none⟩) (by simp) _⟩
  have HBad : Hid (∀ (wx : World), putGood ps turns k v = false → Below w.heap.size w wx → ∀ {e : Ending}, e = .returned (.agg #[.slice none 0 0, .int .i64 0]) → PutRes w ps turns k v e ((wx.setCell ⟨w.heap.size + 3, 0, none⟩ (.slice none 0 0)).setCell ⟨w.heap.size + 3, 1, none⟩ (.int .i64 0))) := hbad
  clear hbad
  by_cases ht : tokV ps turns = true
  · go_wp2_with fail
    refine (vok_any _ _ _ _ _ _ hv.2).mono ?_
    rintro e w3 ⟨rfl, hx⟩
    have HB3 : Hid (Below w.heap.size w w3) := HB2.out.trans (hx.mono HB2.out.size)
    replace c0 := cell_later hx c0; replace c1 := cell_later hx c1; replace c2 := cell_later hx c2; replace c3 := cell_later hx c3; replace c4 := cell_later hx c4; replace c5 := cell_later hx c5
    replace t0 := cell_later hx t0; replace t1 := cell_later hx t1
    replace v0 := cell_later hx v0; replace v1 := cell_later hx v1; replace v2 := cell_later hx v2; replace v3 := cell_later hx v3; replace v4 := cell_later hx v4
    have hr3 := (hx.block _ (Array.getElem?_eq_some_iff.1 HBr.out).1).trans HBr.out
    replace r0 := cell_later hx r0; replace r1 := cell_later hx r1
    replace zr := blk_frozen hr3
    have HR3 : Hid (w3.heap[w.heap.size + 3]? = some (.cells #[.slice none 0 0, .int .i64 0] 55)) := hr3
    clear hx hr3
    by_cases hvv : vok v.k v.n v.f v.s v.r = true
    · by_cases hc : qc = 0
      · have hg : putGood ps turns k v = true := by unfold putGood; rw [ht, hvv, ← HQC.out, hc]; rfl
        obtain ⟨hn, ht1, ht2⟩ := tokV_len ht
        have HKV := keyV_ok hk.1 hk.2 HU.out
        have HGd : Hid (ansL ps turns k v = putPs ps turns q v ∧ ansT ps turns k v = putT ps turns q v) := by
          show ansL ps turns k v = putPs ps turns q v ∧ ansT ps turns k v = putT ps turns q v
          unfold ansL ansT; rw [if_pos hg, if_pos hg, HQ'.out]; exact ⟨rfl, rfl⟩
        have HVal : Hid (∀ p ∈ ps, p.val.k ≠ 0) := tokV_val ht
        subst hc
        clear hg
        go_wp2_with fail
        refine (l2put_any b off len cap ps turns q v _ hl (by exact HP.out.later HB3.out) (by omega) HO.out HKV hv HVal.out ht1 ht2).mono ?_
        rintro e w4 ⟨sv, rfl, hOw, hx⟩
        obtain ⟨ao, n', cap', rfl⟩ := owns_shape hOw
        have hr4 := (hx.block _ (Array.getElem?_eq_some_iff.1 HR3.out).1).trans HR3.out
        have HB4 := HB3.out.trans (hx.mono HB3.out.size)
        have s3 := HB3.out.size
        have z3 := (Array.getElem?_eq_some_iff.1 HR3.out).1
        have HOw : Hid (w4.ownsRow w3.heap.size 60 11 (.slice ao n' cap') (putPs ps turns q v).length (flat (putPs ps turns q v))) := hOw
        clear hOw hx r0 r1 zr c0 c1 c2 c3 c4 c5 t0 t1 v0 v1 v2 v3 v4
        have r0 := blk_cell hr4 0; have r1 := blk_cell hr4 1; have zr := blk_frozen hr4
        simp only [List.getElem?_toArray, List.getElem?_cons_zero, List.getElem?_cons_succ] at r0 r1
        clear hr4
        go_wp2_with fail
        refine bodyPost_ret (v := .agg #[.slice ao n' cap', .int .i64 (putT ps turns q v)]) (by simp [results, Try.results48, go_sem, r0, r1]) rfl ⟨.slice ao n' cap', by rw [HGd.out.2], ?_, (HB4.setCell (p := ⟨w.heap.size + 3, 0, none⟩) (by simp) _).setCell (p := ⟨w.heap.size + 3, 1, none⟩) (by simp) _⟩
        rw [HGd.out.1]
        refine owns_mono s3 (owns_bt (S := [w.heap.size + 3]) (((Bt.refl _ _).setCell (p := ⟨w.heap.size + 3, 0, none⟩) (by simp) _).setCell (p := ⟨w.heap.size + 3, 1, none⟩) (by simp) _) (by simp; omega) HOw.out)
      · have hc' : (qc != 0) = true := by simpa using hc
        have hg : putGood ps turns k v = false := by
          unfold putGood
          rw [show ((keyD k).1 == 0) = false by rw [← HQC.out]; simpa using hc]
          simp
        go_wp2_with fail
        exact bodyPost_ret (v := .agg #[.slice none 0 0, .int .i64 0]) (by simp [results, Try.results48, go_sem, r0, r1]) rfl (HBad.out w3 hg HB3.out rfl)
    · replace hvv : vok v.k v.n v.f v.s v.r = false := by simpa using hvv
      have hg : putGood ps turns k v = false := by unfold putGood; rw [hvv]; simp
      go_wp2_with fail
      exact bodyPost_ret (v := .agg #[.slice none 0 0, .int .i64 0]) (by simp [results, Try.results48, go_sem, r0, r1]) rfl (HBad.out w3 hg HB3.out rfl)
  · replace ht : tokV ps turns = false := by simpa using ht
    have hg : putGood ps turns k v = false := by unfold putGood; rw [ht]; simp
    go_wp2_with fail
    exact bodyPost_ret (v := .agg #[.slice none 0 0, .int .i64 0]) (by simp [results, Try.results48, go_sem, r0, r1]) rfl (HBad.out w2 hg HB2.out rfl)
end Go.Proofs.Ytkipmogmejfmcaa

/-
  OWN WORK. Put of the program: a key is in a valid table once.
-/
namespace Go.Proofs.Ytkipmogmejfmcaa
open Go.RowKit
set_option linter.unusedVariables false

theorem order_inf {a b : Nat} {s : Bool} (hb : b < 18446744073709551616) (ha : Ieee.double.read a = .infinity s) (h : FloatKind.f64.format.order a b = some .eq) : Ieee.double.read b = .infinity s := by
  have h' : (Ieee.double.read a).order (Ieee.double.read b) = some .eq := h
  rw [ha] at h'
  rcases Fl.read_cases b hb with ⟨t, M, L, _, _, hr⟩ | ⟨t, hr⟩ | ⟨t, u, hr⟩
  · rw [hr] at h'
    cases s <;> cases h'
  · rw [hr] at h' ⊢
    cases s <;> cases t <;> first | rfl | exact absurd h' (by decide)
  · rw [hr] at h'; cases h'

theorem order_num {a b : Nat} {s : Bool} {M L : Nat} (hb : b < 18446744073709551616) (ha : Ieee.double.read a = .number s M (-1074 + L)) (h : FloatKind.f64.format.order a b = some .eq) : ∃ t N K, Ieee.double.read b = .number t N (-1074 + (K : Nat)) ∧ Fl.V s M L = Fl.V t N K := by
  rcases Fl.read_cases b hb with ⟨t, N, K, _, _, hr⟩ | ⟨t, hr⟩ | ⟨t, u, hr⟩
  · rw [Fl.order_wd ha hr] at h
    exact ⟨t, N, K, hr, Int.compare_eq_eq.1 (Option.some.inj h)⟩
  · have h' : (Ieee.double.read a).order (Ieee.double.read b) = some .eq := h
    rw [ha, hr] at h'
    cases t <;> cases h'
  · have h' : (Ieee.double.read a).order (Ieee.double.read b) = some .eq := h
    rw [ha, hr] at h'; cases h'

theorem order_tr {a b c : Nat} (ha : a < 18446744073709551616) (hb : b < 18446744073709551616) (hc : c < 18446744073709551616) (h1 : FloatKind.f64.format.order a b = some .eq) (h2 : FloatKind.f64.format.order a c = some .eq) : FloatKind.f64.format.order b c = some .eq := by
  rcases Fl.read_cases a ha with ⟨s, M, L, _, _, hr⟩ | ⟨s, hr⟩ | ⟨s, t, hr⟩
  · obtain ⟨t1, N1, K1, r1, e1⟩ := order_num hb hr h1
    obtain ⟨t2, N2, K2, r2, e2⟩ := order_num hc hr h2
    rw [Fl.order_wd r1 r2, Int.compare_eq_eq.2 (e1.symm.trans e2)]
  · have r1 := order_inf hb hr h1
    have r2 := order_inf hc hr h2
    show (Ieee.double.read b).order (Ieee.double.read c) = some .eq
    rw [r1, r2]
    cases s <;> rfl
  · have h' : (Ieee.double.read a).order (Ieee.double.read b) = some .eq := h1
    rw [hr] at h'; cases h'

theorem eqb_tr {a b c : VD} (ha : a.f < 18446744073709551616) (hb : b.f < 18446744073709551616) (hc : c.f < 18446744073709551616) (h1 : eqb a b = true) (h2 : eqb a c = true) : eqb b c = true := by
  unfold eqb at h1 h2 ⊢
  simp only [Bool.and_eq_true, beq_iff_eq] at h1 h2 ⊢
  obtain ⟨a1, a2, a3, a4, a5⟩ := h1
  obtain ⟨c1, c2, c3, c4, c5⟩ := h2
  exact ⟨a1.symm.trans c1, a2.symm.trans c2, order_tr ha hb hc a3 c3, a4.symm.trans c4, a5.symm.trans c5⟩

/-- No two keys of a valid table are the same. -/
def Apart (ps : List PD) : Prop := ∀ (i j : Nat) (p q : PD), i < j → ps[i]? = some p → ps[j]? = some q → p.key.sam q.key = false

theorem tokL_apart {turns : Int} {rest : List PD} : ∀ {ds : List PD} {last : Int}, tokL turns ds rest last = true → (∀ d ∈ ds, ∀ q ∈ rest, d.key.sam q.key = false) ∧ Apart rest := by
  induction rest with
  | nil =>
    intro ds last _
    refine ⟨?_, ?_⟩
    · intro d _ q hq; cases hq
    · intro i j p q _ h; simp at h
  | cons d rest ih =>
    intro ds last h
    unfold tokL at h
    simp only [Bool.and_eq_true] at h
    obtain ⟨h1, h2⟩ := ih h.2
    have hc : clash d ds = false := by have := h.1.2; simpa using this
    unfold clash at hc
    rw [List.any_eq_false] at hc
    refine ⟨?_, ?_⟩
    · intro e he q hq
      rcases List.mem_cons.1 hq with rfl | hq
      · have := hc e he
        have h' : ¬ e.key.sam q.key = true := this
        simpa using h'
      · exact h1 e (by simp [he]) q hq
    · intro i j p q hij hp hq
      cases i with
      | zero =>
        simp at hp; subst hp
        cases j with
        | zero => omega
        | succ j => simp at hq; exact h1 d (by simp) q (List.mem_of_getElem? hq)
      | succ i =>
        cases j with
        | zero => omega
        | succ j => simp at hp hq; exact h2 i j p q (by omega) hp hq
theorem tokV_apart {ps : List PD} {turns : Int} (h : tokV ps turns = true) : Apart ps := by
  unfold tokV at h
  simp only [Bool.and_eq_true] at h
  exact (tokL_apart h.2).2

/-- At most one pair has a key. -/
theorem once {ps : List PD} {key : VD} (hA : Apart ps) (hps : ∀ d ∈ ps, d.key.f < 18446744073709551616 ∧ d.key.kk = true) (hkf : key.f < 18446744073709551616) (hkk : key.kk = true) {i j : Nat} {p q : PD} (hp : ps[i]? = some p) (hq : ps[j]? = some q) (h1 : p.key.sam key = true) (h2 : q.key.sam key = true) : i = j := by
  have gp := hps p (List.mem_of_getElem? hp)
  have gq := hps q (List.mem_of_getElem? hq)
  have e1 : eqb key p.key = true := by rw [eqb_sam hkf gp.1 hkk gp.2]; exact h1
  have e2 : eqb key q.key = true := by rw [eqb_sam hkf gq.1 hkk gq.2]; exact h2
  rcases Nat.lt_trichotomy i j with h | h | h
  · exfalso
    have e3 := eqb_tr hkf gq.1 gp.1 e2 e1
    rw [eqb_sam gq.1 gp.1 gq.2 gp.2, hA i j p q h hp hq] at e3
    cases e3
  · exact h
  · exfalso
    have e3 := eqb_tr hkf gp.1 gq.1 e1 e2
    rw [eqb_sam gp.1 gq.1 gp.2 gq.2, hA j i q p h hq hp] at e3
    cases e3

/-- The list behind Put where the key is at a place: the pair there alone turns. -/
theorem outL_at {key v : VD} : ∀ {ps : List PD} {i : Nat} {p : PD}, ps[i]? = some p → p.key.sam key = true → (∀ j q, ps[j]? = some q → q.key.sam key = true → j = i) → outL key v ps = ps.take i ++ (if v.k = 0 then [] else [PD.mk p.key v p.turn]) ++ ps.drop (i + 1) := by
  intro ps
  induction ps with
  | nil => intro i p h; simp at h
  | cons d ps ih =>
    intro i p hp hs hone
    cases i with
    | zero =>
      simp at hp; subst hp
      have hrest : outL key v ps = ps := by
        have hno : ∀ q ∈ ps, q.key.sam key = false := by
          intro q hq
          obtain ⟨j, hj, he⟩ := List.mem_iff_getElem.1 hq
          by_cases h : q.key.sam key = true
          · have := hone (j + 1) q (by simp [hj, he]) h; omega
          · simpa using h
        clear ih hone hs
        induction ps with
        | nil => rfl
        | cons q ps ih2 =>
          have hq := hno q (by simp)
          have e : outL key v (q :: ps) = putQ key v q ++ outL key v ps := by simp [outL]
          rw [e, ih2 (fun x hx => hno x (by simp [hx]))]
          unfold putQ
          rw [if_neg (by simp [hq])]; rfl
      have e : outL key v (d :: ps) = putQ key v d ++ outL key v ps := by simp [outL]
      rw [e, hrest]
      unfold putQ
      rw [if_pos hs]
      simp
    | succ i =>
      have hd : d.key.sam key = false := by
        by_cases h : d.key.sam key = true
        · have := hone 0 d rfl h; omega
        · simpa using h
      have e : outL key v (d :: ps) = putQ key v d ++ outL key v ps := by simp [outL]
      rw [e, ih (i := i) (p := p) (by simpa using hp) hs (fun j q hj hq => by have := hone (j + 1) q (by simpa using hj) hq; omega)]
      unfold putQ
      rw [if_neg (by simp [hd])]
      simp

/-- .. and where the key is not there: nothing turns. -/
theorem outL_no {key v : VD} : ∀ {ps : List PD}, metL key ps = false → outL key v ps = ps := by
  intro ps
  induction ps with
  | nil => intro _; rfl
  | cons d ps ih =>
    intro h
    have h' : (d.key.sam key || metL key ps) = false := by simpa [metL] using h
    rw [Bool.or_eq_false_iff] at h'
    have e : outL key v (d :: ps) = putQ key v d ++ outL key v ps := by simp [outL]
    rw [e, ih h'.2]
    unfold putQ
    rw [if_neg (by simp [h'.1])]; rfl
theorem fidx_met (key : VD) (ps : List PD) (i : Nat) : decide (fidx key ps i < 0) = !metL key ps := by
  induction ps generalizing i with
  | nil => rfl
  | cons d ps ih =>
    have e : metL key (d :: ps) = (d.key.sam key || metL key ps) := by simp [metL]
    rw [e]
    have e2 : fidx key (d :: ps) i = if d.key.sam key = true then (i : Int) else fidx key ps (i + 1) := rfl
    rw [e2]
    by_cases h : d.key.sam key = true
    · rw [if_pos h, h]; simp
    · have h' : d.key.sam key = false := by simpa using h
      rw [if_neg h, h', Bool.false_or]; exact ih (i + 1)
end Go.Proofs.Ytkipmogmejfmcaa

/-
  OWN WORK. The laws' marks: the text of a number.
-/
namespace Go.Proofs.Ytkipmogmejfmcaa
open Go.RowKit
set_option linter.unusedVariables false

/-- A digit. -/
def chr (k : Nat) : UInt8 := UInt8.ofNat (48 + k % 10)
theorem chr_nat (k : Nat) : (chr k).toNat = 48 + k % 10 := by unfold chr; rw [UInt8.toNat_ofNat']; omega

/-- The digits of a number, ahead of a text. -/
def dg : Nat → Nat → ByteArray → ByteArray
  | 0, _, out => out
  | f + 1, k, out => if k = 0 then out else dg f (k / 10) (⟨#[chr k]⟩ ++ out)

theorem dg_fuel : ∀ (f k : Nat) (out : ByteArray), k ≤ f → dg (f + 1) k out = dg f k out := by
  intro f
  induction f with
  | zero =>
    intro k out h
    obtain rfl : k = 0 := by omega
    rfl
  | succ f ih =>
    intro k out h
    rw [dg]
    conv => rhs; rw [dg]
    by_cases h0 : k = 0
    · rw [if_pos h0, if_pos h0]
    · rw [if_neg h0, if_neg h0]
      exact ih _ _ (by omega)

/-- The mark's text. -/
def mtx (k : Nat) : ByteArray := ⟨#[109]⟩ ++ dg k k ⟨#[]⟩

set_option maxRecDepth 20000 in
set_option maxHeartbeats 1000000 in
theorem mtx_any (k : Nat) (w : World) (hk : 0 < k) (hk2 : k ≤ 100000000000000) :
    Calls Try.prog 115 #[.int .i64 (k : Int)] w fun e w' => e = .returned (.string (mtx k)) ∧ Below w.heap.size w w' := by
  go_enter Try.func115, Try.ntmps115
  go_wp2_with fail
  go_loopw [0, 3] (fun a c wr => ∃ (j f : Nat) (out : ByteArray), a = .int .i64 (j : Int) ∧ c = .string out ∧ j ≤ f ∧ out.size + j ≤ k ∧ Below w.heap.size w wr ∧ Hid (dg f j out = dg k k ⟨#[]⟩)) (fun a _ _ => (intOf a).toNat)
  case atStart => exact ⟨k, k, _, rfl, rfl, Nat.le_refl _, by show 0 + k ≤ k; omega, Below.refl _ _, rfl⟩
  case round =>
    obtain ⟨j, f, out, rfl, rfl, hjf, hos, hB, hF⟩ := hrel
    by_cases k1 : 0 < j
    · obtain ⟨f', rfl⟩ : ∃ f', f = f' + 1 := ⟨f - 1, by omega⟩
      have HD : Hid (dg f' (j / 10) (⟨#[chr j]⟩ ++ out) = dg k k ⟨#[]⟩) := by
        have := hF.out; rw [dg, if_neg (by omega)] at this; exact this
      clear hF
      have hcv : (convert 156 9 (.slice (some ⟨wr.heap.size, 0, none⟩) 1 1)).run Try.prog (wr.alloc (.cells #[.int .u8 (48 + (j : Int) % 10)] 5)) = .ok (.string ⟨#[chr j]⟩) (wr.alloc (.cells #[.int .u8 (48 + (j : Int) % 10)] 5)) :=
        run_convert_bytes_back (P := Try.prog) _ 156 9 5 ⟨wr.heap.size, 0, none⟩ 1 [chr j] Try.underlying156 Try.underlying5 Try.underlying9 (fun i hi => by
          obtain rfl : i = 0 := by simp at hi; omega
          have e : ((chr j).toNat : Int) = 48 + (j : Int) % 10 := by rw [chr_nat]; omega
          show (wr.alloc _).cell? (Addr.add ⟨wr.heap.size, 0, none⟩ 0) = some (.int .u8 ((chr j).toNat : Int))
          rw [e]; simp [go_sem])
      have hsz : (ByteArray.mk #[chr j]).size = 1 := rfl
      have hs2 : ((⟨#[chr j]⟩ : ByteArray) ++ out).size = 1 + out.size := by rw [ByteArray.size_append]; rfl
      go_wp2_with fail
      go_roundw
      case rel => exact ⟨j / 10, f', _, by congr 1, rfl, by omega, by rw [hs2]; omega, hB.alloc hB.size _, HD⟩
      case measure => simp [intOf]; omega
    · obtain rfl : j = 0 := by omega
      have HD : Hid (out = dg k k ⟨#[]⟩) := by
        have := hF.out
        cases f with
        | zero => exact this
        | succ f => rw [dg, if_pos rfl] at this; exact this
      clear hF
      have hs1 : (ByteArray.mk #[109]).size = 1 := rfl
      go_wp2_with fail
      go_ret
      exact ⟨by unfold mtx; rw [← HD.out]; rfl, hB⟩
end Go.Proofs.Ytkipmogmejfmcaa

/-
  OWN WORK. The laws' marks: a row of pairs is marked.
-/
namespace Go.Proofs.Ytkipmogmejfmcaa
open Go.RowKit
attribute [local go_sem] run_store_float
set_option linter.unusedVariables false

/-- A marked pair. -/
def mkP (k : Nat) : PD := ⟨⟨k, (k + 1 : Nat), floatOfInt .f64 (k + 2 : Nat), mtx (k + 3), (k + 4 : Nat)⟩, ⟨(k + 5 : Nat), (k + 6 : Nat), floatOfInt .f64 (k + 7 : Nat), mtx (k + 8), (k + 9 : Nat)⟩, (k + 10 : Nat)⟩
/-- Marked pairs. -/
def mks (k n : Nat) : List PD := (List.range n).map fun i => mkP (k + 11 * i)
theorem mks_get {k n i : Nat} (h : i < n) : (mks k n)[i]? = some (mkP (k + 11 * i)) := by simp [mks, h]

theorem bt_later {S : List Nat} {w a b : World} (h : Bt S w a) (hb : Below a.heap.size a b) : Bt S w b := h.trans (Bt.of_below hb)

set_option maxRecDepth 20000 in
set_option maxHeartbeats 2000000 in
theorem mark_row (g len cap : Nat) (k0 : Nat) (ar : Array Value) (t : TypeId) (w : World) (hg : w.heap[g]? = some (.cells ar t)) (hs : len * 11 ≤ ar.size) (hlen : len ≤ 1048576) (hk : k0 ≤ 1000) :
    Calls Try.prog 91 #[.slice (some ⟨g, 0, none⟩) len cap, .int .i64 (k0 : Int)] w fun e w' => e = .returned (.int .i64 ((k0 + 11 * len : Nat) : Int)) ∧ Bt [g] w w' ∧ ∃ ax : Array Value, w'.heap[g]? = some (.cells ax t) ∧ ax.size = ar.size ∧ Cont (mks k0 len) ax len := by
  have HG : Hid (w.heap[g]? = some (.cells ar t)) := hg
  clear hg
  go_enter Try.func91, Try.ntmps91
  go_wp2_with fail
  go_loopw [1, 5] (fun kk ii wr => ∃ (m K : Nat) (ax : Array Value), m ≤ len ∧ ii = .int .i64 m ∧ kk = .int .i64 (K : Int) ∧ K ≤ 20000000 ∧ Hid (K = k0 + 11 * m) ∧ Bt [g] w wr ∧ Hid (wr.heap[g]? = some (.cells ax t)) ∧ ax.size = ar.size ∧ Hid (Cont (mks k0 len) ax m)) (fun _ ii _ => len - (intOf ii).toNat)
  case atStart => exact ⟨0, k0, ar, Nat.zero_le _, rfl, rfl, by omega, rfl, Bt.refl _ _, HG, rfl, fun i q hi => absurd hi (Nat.not_lt_zero _)⟩
  case round =>
    obtain ⟨m, K, ax, hm, rfl, rfl, hKb, hK, hB, hA, hsz, hC⟩ := hrel
    by_cases k1 : m < len
    · have HP : Hid ((mks k0 len)[m]? = some (mkP K)) := by show (mks k0 len)[m]? = some (mkP K); rw [mks_get k1, hK.out]
      obtain ⟨y0, e0⟩ : ∃ y, wr.cell? ⟨g, m * 11, none⟩ = some y := ⟨ax[m * 11]'(by omega), by rw [blk_cell hA.out]; simp⟩
      obtain ⟨y1, e1⟩ : ∃ y, wr.cell? ⟨g, m * 11 + 1, none⟩ = some y := ⟨ax[m * 11 + 1]'(by omega), by rw [blk_cell hA.out]; simp⟩
      obtain ⟨y2, e2⟩ : ∃ y, wr.cell? ⟨g, m * 11 + 2, none⟩ = some y := ⟨ax[m * 11 + 2]'(by omega), by rw [blk_cell hA.out]; simp⟩
      have z := blk_frozen hA.out
      obtain ⟨k3, hk3⟩ : ∃ k3 : Int, (K : Int) + 1 + 1 + 1 = k3 := ⟨_, rfl⟩
      have HK3 : Hid ((K : Int) + 1 + 1 + 1 = k3) := hk3
      have hb3 : 0 ≤ k3 := by omega
      have hb3' : k3 ≤ 20000003 := by omega
      clear hk3
      go_wp2_with fail
      rw [HK3.out]
      clear e0 e1 e2 z
      obtain ⟨ax1, wA, hwA, hA1, hB1, hs1⟩ : ∃ (ax1 : Array Value) (wA : World), wA = (((wr.setCell ⟨g, m * 11, none⟩ (.int .i64 (K : Int))).setCell ⟨g, m * 11 + 1, none⟩ (.int .i64 ((K : Int) + 1))).setCell ⟨g, m * 11 + 2, none⟩ (.float .f64 (floatOfInt .f64 ((K : Int) + 1 + 1)))) ∧ wA.heap[g]? = some (.cells ax1 t) ∧ Bt [g] wr wA ∧ ax1 = ((ax.setIfInBounds (m * 11) (.int .i64 (K : Int))).setIfInBounds (m * 11 + 1) (.int .i64 ((K : Int) + 1))).setIfInBounds (m * 11 + 2) (.float .f64 (floatOfInt .f64 ((K : Int) + 1 + 1))) :=
        ⟨_, _, rfl, blk_set (blk_set (blk_set hA.out _ _) _ _) _ _, (((Bt.refl [g] wr).setCell (p := ⟨g, m * 11, none⟩) (by simp) _).setCell (p := ⟨g, m * 11 + 1, none⟩) (by simp) _).setCell (p := ⟨g, m * 11 + 2, none⟩) (by simp) _, rfl⟩
      rw [← hwA]
      have hm3 := mtx_any (K + 3) wA (by omega) (by omega)
      rw [show ((K + 3 : Nat) : Int) = k3 by have := HK3.out; omega] at hm3
      refine hm3.mono ?_
      clear hm3
      rintro e w1 ⟨rfl, hx⟩
      have hA1' : w1.heap[g]? = some (.cells ax1 t) := (hx.block g (Array.getElem?_eq_some_iff.1 hA1).1).trans hA1
      have HB1 : Hid (Bt [g] wr w1) := bt_later hB1 hx
      have hz1 : ax1.size = ax.size := by rw [hs1]; simp
      clear hx hwA hA1 hB1
      obtain ⟨y3, e3⟩ : ∃ y, w1.cell? ⟨g, m * 11 + 3, none⟩ = some y := ⟨ax1[m * 11 + 3]'(by omega), by rw [blk_cell hA1']; simp⟩
      obtain ⟨y4, e4⟩ : ∃ y, w1.cell? ⟨g, m * 11 + 4, none⟩ = some y := ⟨ax1[m * 11 + 4]'(by omega), by rw [blk_cell hA1']; simp⟩
      obtain ⟨y5, e5⟩ : ∃ y, w1.cell? ⟨g, m * 11 + 5, none⟩ = some y := ⟨ax1[m * 11 + 5]'(by omega), by rw [blk_cell hA1']; simp⟩
      obtain ⟨y6, e6⟩ : ∃ y, w1.cell? ⟨g, m * 11 + 6, none⟩ = some y := ⟨ax1[m * 11 + 6]'(by omega), by rw [blk_cell hA1']; simp⟩
      obtain ⟨y7, e7⟩ : ∃ y, w1.cell? ⟨g, m * 11 + 7, none⟩ = some y := ⟨ax1[m * 11 + 7]'(by omega), by rw [blk_cell hA1']; simp⟩
      have z1 := blk_frozen hA1'
      have HA1 : Hid (w1.heap[g]? = some (.cells ax1 t)) := hA1'
      have HS1 : Hid (ax1 = ((ax.setIfInBounds (m * 11) (.int .i64 (K : Int))).setIfInBounds (m * 11 + 1) (.int .i64 ((K : Int) + 1))).setIfInBounds (m * 11 + 2) (.float .f64 (floatOfInt .f64 ((K : Int) + 1 + 1)))) := hs1
      clear hA1' hs1
      obtain ⟨k8, hk8⟩ : ∃ k8 : Int, k3 + 1 + 1 + 1 + 1 + 1 = k8 := ⟨_, rfl⟩
      have HK8 : Hid (k3 + 1 + 1 + 1 + 1 + 1 = k8) := hk8
      have hb8 : 0 ≤ k8 := by omega
      have hb8' : k8 ≤ 20000008 := by omega
      clear hk8
      go_wp2_with fail
      rw [HK8.out]
      clear e3 e4 e5 e6 e7 z1
      obtain ⟨ax2, wB, hwB, hA2, hB2, hs2⟩ : ∃ (ax2 : Array Value) (wB : World), wB = (((((w1.setCell ⟨g, m * 11 + 3, none⟩ (.string (mtx (K + 3)))).setCell ⟨g, m * 11 + 4, none⟩ (.int .i64 (k3 + 1))).setCell ⟨g, m * 11 + 5, none⟩ (.int .i64 (k3 + 1 + 1))).setCell ⟨g, m * 11 + 5 + 1, none⟩ (.int .i64 (k3 + 1 + 1 + 1))).setCell ⟨g, m * 11 + 5 + 2, none⟩ (.float .f64 (floatOfInt .f64 (k3 + 1 + 1 + 1 + 1)))) ∧ wB.heap[g]? = some (.cells ax2 t) ∧ Bt [g] w1 wB ∧ ax2 = ((((ax1.setIfInBounds (m * 11 + 3) (.string (mtx (K + 3)))).setIfInBounds (m * 11 + 4) (.int .i64 (k3 + 1))).setIfInBounds (m * 11 + 5) (.int .i64 (k3 + 1 + 1))).setIfInBounds (m * 11 + 6) (.int .i64 (k3 + 1 + 1 + 1))).setIfInBounds (m * 11 + 7) (.float .f64 (floatOfInt .f64 (k3 + 1 + 1 + 1 + 1))) :=
        ⟨_, _, rfl, blk_set (blk_set (blk_set (blk_set (blk_set HA1.out _ _) _ _) _ _) _ _) _ _, (((((Bt.refl [g] w1).setCell (p := ⟨g, m * 11 + 3, none⟩) (by simp) _).setCell (p := ⟨g, m * 11 + 4, none⟩) (by simp) _).setCell (p := ⟨g, m * 11 + 5, none⟩) (by simp) _).setCell (p := ⟨g, m * 11 + 5 + 1, none⟩) (by simp) _).setCell (p := ⟨g, m * 11 + 5 + 2, none⟩) (by simp) _, rfl⟩
      rw [← hwB]
      have hm8 := mtx_any (K + 8) wB (by omega) (by omega)
      rw [show ((K + 8 : Nat) : Int) = k8 by have h3 := HK3.out; have h8 := HK8.out; omega] at hm8
      refine hm8.mono ?_
      clear hm8
      rintro e w2 ⟨rfl, hx⟩
      have hA2' : w2.heap[g]? = some (.cells ax2 t) := (hx.block g (Array.getElem?_eq_some_iff.1 hA2).1).trans hA2
      have HB2 : Hid (Bt [g] w1 w2) := bt_later hB2 hx
      have hz2 : ax2.size = ax.size := by rw [hs2]; simp; exact hz1
      clear hx hwB hA2 hB2
      obtain ⟨y8, e8⟩ : ∃ y, w2.cell? ⟨g, m * 11 + 8, none⟩ = some y := ⟨ax2[m * 11 + 8]'(by omega), by rw [blk_cell hA2']; simp⟩
      obtain ⟨y9, e9⟩ : ∃ y, w2.cell? ⟨g, m * 11 + 9, none⟩ = some y := ⟨ax2[m * 11 + 9]'(by omega), by rw [blk_cell hA2']; simp⟩
      obtain ⟨y10, e10⟩ : ∃ y, w2.cell? ⟨g, m * 11 + 10, none⟩ = some y := ⟨ax2[m * 11 + 10]'(by omega), by rw [blk_cell hA2']; simp⟩
      have z2 := blk_frozen hA2'
      have HA2 : Hid (w2.heap[g]? = some (.cells ax2 t)) := hA2'
      have HS2 : Hid (ax2 = ((((ax1.setIfInBounds (m * 11 + 3) (.string (mtx (K + 3)))).setIfInBounds (m * 11 + 4) (.int .i64 (k3 + 1))).setIfInBounds (m * 11 + 5) (.int .i64 (k3 + 1 + 1))).setIfInBounds (m * 11 + 6) (.int .i64 (k3 + 1 + 1 + 1))).setIfInBounds (m * 11 + 7) (.float .f64 (floatOfInt .f64 (k3 + 1 + 1 + 1 + 1)))) := hs2
      clear hA2' hs2
      go_wp2_with fail
      clear e8 e9 e10 z2
      go_roundw
      case rel =>
        have h3 := HK3.out
        have h8 := HK8.out
        have hK' := hK.out
        have hmm : (((ax2.setIfInBounds (m * 11 + 8) (.string (mtx (K + 8)))).setIfInBounds (m * 11 + 9) (.int .i64 (k8 + 1))).setIfInBounds (m * 11 + 10) (.int .i64 (k8 + 1 + 1))) = put11 ax (m * 11) (mkP K) := by
          rw [HS2.out, HS1.out]
          unfold put11 mkP
          simp only
          rw [show (K : Int) + 1 = ((K + 1 : Nat) : Int) by omega, show ((K + 1 : Nat) : Int) + 1 = ((K + 2 : Nat) : Int) by omega, show k3 + 1 = ((K + 4 : Nat) : Int) by omega, show ((K + 4 : Nat) : Int) + 1 = ((K + 5 : Nat) : Int) by omega, show ((K + 5 : Nat) : Int) + 1 = ((K + 6 : Nat) : Int) by omega, show ((K + 6 : Nat) : Int) + 1 = ((K + 7 : Nat) : Int) by omega, show k8 + 1 = ((K + 9 : Nat) : Int) by omega, show ((K + 9 : Nat) : Int) + 1 = ((K + 10 : Nat) : Int) by omega]
        refine ⟨m + 1, K + 11, put11 ax (m * 11) (mkP K), by omega, by go_num, by congr 1; omega, by omega, by show K + 11 = k0 + 11 * (m + 1); omega, ?_, ?_, by rw [put11_size]; exact hsz, ?_⟩
        · exact ((((hB.trans HB1.out).trans HB2.out).setCell (p := ⟨g, m * 11 + 8, none⟩) (by simp) _).setCell (p := ⟨g, m * 11 + 9, none⟩) (by simp) _).setCell (p := ⟨g, m * 11 + 10, none⟩) (by simp) _
        · rw [← hmm]; exact blk_set (blk_set (blk_set HA2.out (m * 11 + 8) _) (m * 11 + 9) _) (m * 11 + 10) _
        · intro i q hi hq j v hv
          have hj : j < 11 := by have := (List.getElem?_eq_some_iff.1 hv).1; rw [cells_len] at this; exact this
          by_cases he : i = m
          · subst he
            rw [HP.out] at hq; cases hq
            rw [put11_at ax _ _ (by omega) j hj]; exact hv
          · rw [put11_below ax _ _ _ (by omega)]
            exact hC.out i q (by omega) hq j v hv
      case measure => simp [intOf]; omega
    · have hml : m = len := by omega
      subst hml
      have HE : Hid ((K : Int) = ((k0 + 11 * m : Nat) : Int)) := by show (K : Int) = _; rw [hK.out]
      go_wp2_with fail
      go_ret
      exact ⟨by rw [HE.out]; rfl, hB, ax, hA.out, hsz, hC.out⟩
end Go.Proofs.Ytkipmogmejfmcaa

/-
  OWN WORK. The laws' marks: a marked row holds its marks.
-/
namespace Go.Proofs.Ytkipmogmejfmcaa
open Go.RowKit
attribute [local go_sem] run_store_float
set_option linter.unusedVariables false

theorem foi_self (n : Nat) (h0 : 0 < n) (h1 : n < 9007199254740992) : FloatKind.f64.format.order (floatOfInt .f64 (n : Int)) (floatOfInt .f64 (n : Int)) = some .eq := by
  obtain ⟨M, L, c, hc, _, he, _⟩ := Fl.nearest_int false n h0 h1
  have e : floatOfInt .f64 (n : Int) = Fl.wd false M L := by
    rw [Fl.foi, Int.natAbs_natCast, show decide ((n : Int) < 0) = false by simp]; exact he
  have hr := Fl.read_wd false M L hc
  rw [e, Fl.order_wd hr hr, Int.compare_eq_eq.2 rfl]

set_option maxRecDepth 20000 in
set_option maxHeartbeats 2000000 in
theorem held_row (g len cap k0 : Nat) (w : World) (hp : PAt w g 0 (mks k0 len)) (hlen : len ≤ 1048576) (hk0 : 0 < k0) (hk : k0 ≤ 1000) :
    Calls Try.prog 92 #[.slice (some ⟨g, 0, none⟩) len cap, .int .i64 (k0 : Int)] w fun e w' => e = .returned (.int .i64 ((k0 + 11 * len : Nat) : Int)) ∧ Below w.heap.size w w' := by
  have HP : Hid (PAt w g 0 (mks k0 len)) := hp
  clear hp
  go_enter Try.func92, Try.ntmps92
  go_wp2_with fail
  go_loopw [1, 5] (fun kk ii wr => ∃ (m K : Nat), m ≤ len ∧ ii = .int .i64 m ∧ kk = .int .i64 (K : Int) ∧ 0 < K ∧ K ≤ 20000000 ∧ Hid (K = k0 + 11 * m) ∧ Below w.heap.size w wr) (fun _ ii _ => len - (intOf ii).toNat)
  case atStart => exact ⟨0, k0, Nat.zero_le _, rfl, rfl, hk0, by omega, rfl, Below.refl _ _⟩
  case round =>
    obtain ⟨m, K, hm, rfl, rfl, hK0, hKb, hK, hB⟩ := hrel
    by_cases k1 : m < len
    · have hpm : (mks k0 len)[m]? = some (mkP K) := by rw [mks_get k1, hK.out]
      have ce : ∀ j v, (mkP K).cells[j]? = some v → wr.cell? ⟨g, m * 11 + j, none⟩ = some v := fun j v hv => by
        have := HP.out m _ hpm j v hv
        rw [Nat.zero_add] at this
        exact cell_later hB this
      obtain ⟨k3, hk3⟩ : ∃ k3 : Int, (K : Int) + 1 + 1 + 1 = k3 := ⟨_, rfl⟩
      obtain ⟨k8, hk8⟩ : ∃ k8 : Int, k3 + 1 + 1 + 1 + 1 + 1 = k8 := ⟨_, rfl⟩
      have c0 : wr.cell? ⟨g, m * 11, none⟩ = some (.int .i64 (K : Int)) := ce 0 _ rfl
      have c1 : wr.cell? ⟨g, m * 11 + 1, none⟩ = some (.int .i64 ((K : Int) + 1)) := ce 1 _ rfl
      have c2 : wr.cell? ⟨g, m * 11 + 2, none⟩ = some (.float .f64 (floatOfInt .f64 ((K : Int) + 1 + 1))) := by
        have : wr.cell? ⟨g, m * 11 + 2, none⟩ = some (.float .f64 (floatOfInt .f64 ((K + 2 : Nat) : Int))) := ce 2 _ rfl; rw [show ((K + 2 : Nat) : Int) = (K : Int) + 1 + 1 by omega] at this; exact this
      have c3 : wr.cell? ⟨g, m * 11 + 3, none⟩ = some (.string (mtx (K + 3))) := ce 3 _ rfl
      have c4 : wr.cell? ⟨g, m * 11 + 4, none⟩ = some (.int .i64 (k3 + 1)) := by
        have : wr.cell? ⟨g, m * 11 + 4, none⟩ = some (.int .i64 ((K + 4 : Nat) : Int)) := ce 4 _ rfl; rw [show ((K + 4 : Nat) : Int) = k3 + 1 by omega] at this; exact this
      have c5 : wr.cell? ⟨g, m * 11 + 5, none⟩ = some (.int .i64 (k3 + 1 + 1)) := by
        have : wr.cell? ⟨g, m * 11 + 5, none⟩ = some (.int .i64 ((K + 5 : Nat) : Int)) := ce 5 _ rfl; rw [show ((K + 5 : Nat) : Int) = k3 + 1 + 1 by omega] at this; exact this
      have c6 : wr.cell? ⟨g, m * 11 + 6, none⟩ = some (.int .i64 (k3 + 1 + 1 + 1)) := by
        have : wr.cell? ⟨g, m * 11 + 6, none⟩ = some (.int .i64 ((K + 6 : Nat) : Int)) := ce 6 _ rfl; rw [show ((K + 6 : Nat) : Int) = k3 + 1 + 1 + 1 by omega] at this; exact this
      have c7 : wr.cell? ⟨g, m * 11 + 7, none⟩ = some (.float .f64 (floatOfInt .f64 (k3 + 1 + 1 + 1 + 1))) := by
        have : wr.cell? ⟨g, m * 11 + 7, none⟩ = some (.float .f64 (floatOfInt .f64 ((K + 7 : Nat) : Int))) := ce 7 _ rfl; rw [show ((K + 7 : Nat) : Int) = k3 + 1 + 1 + 1 + 1 by omega] at this; exact this
      have c8 : wr.cell? ⟨g, m * 11 + 8, none⟩ = some (.string (mtx (K + 8))) := ce 8 _ rfl
      have c9 : wr.cell? ⟨g, m * 11 + 9, none⟩ = some (.int .i64 (k8 + 1)) := by
        have : wr.cell? ⟨g, m * 11 + 9, none⟩ = some (.int .i64 ((K + 9 : Nat) : Int)) := ce 9 _ rfl; rw [show ((K + 9 : Nat) : Int) = k8 + 1 by omega] at this; exact this
      have c10 : wr.cell? ⟨g, m * 11 + 10, none⟩ = some (.int .i64 (k8 + 1 + 1)) := by
        have : wr.cell? ⟨g, m * 11 + 10, none⟩ = some (.int .i64 ((K + 10 : Nat) : Int)) := ce 10 _ rfl; rw [show ((K + 10 : Nat) : Int) = k8 + 1 + 1 by omega] at this; exact this
      have f2 : FloatKind.f64.format.order (floatOfInt .f64 ((K : Int) + 1 + 1)) (floatOfInt .f64 ((K : Int) + 1 + 1)) = some .eq := by
        have := foi_self (K + 2) (by omega) (by omega); rw [show ((K + 2 : Nat) : Int) = (K : Int) + 1 + 1 by omega] at this; exact this
      have f7 : FloatKind.f64.format.order (floatOfInt .f64 (k3 + 1 + 1 + 1 + 1)) (floatOfInt .f64 (k3 + 1 + 1 + 1 + 1)) = some .eq := by
        have := foi_self (K + 7) (by omega) (by omega); rw [show ((K + 7 : Nat) : Int) = k3 + 1 + 1 + 1 + 1 by omega] at this; exact this
      have HM3 : Hid (∀ W, Calls Try.prog 115 #[.int .i64 k3] W fun e w' => e = .returned (.string (mtx (K + 3))) ∧ Below W.heap.size W w') := fun W => by
        have := mtx_any (K + 3) W (by omega) (by omega); rw [show ((K + 3 : Nat) : Int) = k3 by omega] at this; exact this
      have HM8 : Hid (∀ W, Calls Try.prog 115 #[.int .i64 k8] W fun e w' => e = .returned (.string (mtx (K + 8))) ∧ Below W.heap.size W w') := fun W => by
        have := mtx_any (K + 8) W (by omega) (by omega); rw [show ((K + 8 : Nat) : Int) = k8 by omega] at this; exact this
      have HK3 : Hid ((K : Int) + 1 + 1 + 1 = k3) := hk3
      have HK8 : Hid (k3 + 1 + 1 + 1 + 1 + 1 = k8) := hk8
      have b3 : 0 ≤ k3 := by omega
      have b3' : k3 ≤ 20000003 := by omega
      have b8 : 0 ≤ k8 := by omega
      have b8' : k8 ≤ 20000008 := by omega
      clear ce hpm hk3 hk8
      go_wp2_with fail
      rw [HK3.out]
      have e3 := lat_cell c3
      haveI := lat_some wr
      refine wp_region_lat (by kernel_rfl) (by kernel_rfl) ?_
      repeat (go_big_quiet_step ((go_at_call 115; refine lat_calls (HM3.out _))))
      refine wpQuiet_nil ?_
      rintro _ ⟨nq, rfl⟩
      replace hB := hB.trans (nq.below.mono hB.size)
      replace c4 := lat_cell c4 nq; replace c5 := lat_cell c5 nq; replace c6 := lat_cell c6 nq; replace c7 := lat_cell c7 nq; replace c8 := lat_cell c8 nq; replace c9 := lat_cell c9 nq; replace c10 := lat_cell c10 nq
      clear e3 c0 c1 c2 c3
      obtain ⟨w1, hw1⟩ : ∃ w1, w1 = nq.wd := ⟨_, rfl⟩
      rw [← hw1] at hB c4 c5 c6 c7 c8 c9 c10 ⊢
      clear hw1 nq
      go_wp2_with fail
      rw [HK8.out]
      have e3 := lat_cell c8
      haveI := lat_some w1
      refine wp_region_lat (by kernel_rfl) (by kernel_rfl) ?_
      repeat (go_big_quiet_step ((go_at_call 115; refine lat_calls (HM8.out _))))
      refine wpQuiet_nil ?_
      rintro _ ⟨nq, rfl⟩
      replace hB := hB.trans (nq.below.mono hB.size)
      replace c9 := lat_cell c9 nq; replace c10 := lat_cell c10 nq
      clear e3 c4 c5 c6 c7 c8
      obtain ⟨w2, hw2⟩ : ∃ w2, w2 = nq.wd := ⟨_, rfl⟩
      rw [← hw2] at hB c9 c10 ⊢
      clear hw2 nq
      go_wp2_with fail
      go_roundw
      case rel =>
        have h3 := HK3.out
        have h8 := HK8.out
        have hK' := hK.out
        exact ⟨m + 1, K + 11, by omega, by go_num, by congr 1; omega, by omega, by omega, by show K + 11 = k0 + 11 * (m + 1); omega, hB⟩
      case measure => simp [intOf]; omega
    · have hml : m = len := by omega
      subst hml
      have HE : Hid ((K : Int) = ((k0 + 11 * m : Nat) : Int)) := by show (K : Int) = _; rw [hK.out]
      go_wp2_with fail
      go_ret
      exact ⟨by rw [HE.out]; rfl, hB⟩
end Go.Proofs.Ytkipmogmejfmcaa

/-
  OWN WORK. A region that draws its order: one obligation for each operation, not for each order: what has come up is told by an invariant.
-/
namespace Go.Proofs.Ytkipmogmejfmcaa
open Go.RowKit
set_option linter.unusedVariables false

theorem count_set : ∀ (l : List Bool) (i : Nat), l[i]? = some false → (l.set i true).count false + 1 = l.count false
  | [], i, h => by simp at h
  | b :: l, 0, h => by
    simp at h
    subst h
    simp
  | b :: l, i + 1, h => by
    simp at h
    have := count_set l i h
    simp only [List.set_cons_succ, List.count_cons]
    omega

/-- Whatever order is picked: an invariant that each operation keeps once it may come up. -/
theorem wpAny_inv {P : Program} {ops : Array Oper} {Q : Exit → Act → World → Prop} {md : Region.Mode} (Inv : Array Bool → Act → World → Prop)
    (hstep : ∀ i listed a w, Inv listed a w → i ∈ Region.ready md ops listed → wpOp P ops Q i (Inv (listed.setIfInBounds i true)) a w)
    (hend : ∀ listed a w, Inv listed a w → Region.ready md ops listed = [] → Q .normal a w) :
    ∀ (fuel : Nat) (listed : Array Bool) (a : Act) (w : World), listed.toList.count false ≤ fuel → Inv listed a w → wpAny P md ops Q fuel listed a w := by
  have hin : ∀ (listed : Array Bool) (i : Nat), i ∈ Region.ready md ops listed → listed.toList[i]? = some false := by
    intro listed i hi
    have h := (mem_ready.1 hi).1
    rw [Array.getElem?_toList]
    rcases Nat.lt_or_ge i listed.size with h' | h'
    · simp [h'] at h ⊢; exact h
    · simp [Array.getElem?_eq_none h'] at h
  intro fuel
  induction fuel with
  | zero =>
    intro listed a w hc hI
    have hr : Region.ready md ops listed = [] := by
      cases hr : Region.ready md ops listed with
      | nil => rfl
      | cons i r =>
        have h := hin listed i (by rw [hr]; simp)
        have := count_set _ i h
        omega
    exact ⟨hr, hend _ _ _ hI hr⟩
  | succ fuel ih =>
    intro listed a w hc hI
    refine ⟨hend _ _ _ hI, fun i hi => ?_⟩
    refine wpOp_mono (fun a' w' h => ih _ a' w' ?_ h) (hstep i listed a w hI hi)
    have := count_set _ i (hin listed i hi)
    rw [Array.toList_setIfInBounds]
    omega

theorem wp_region_inv {P : Program} {id : Nat} {ops : Array Oper} {Q : Exit → Act → World → Prop} {a : Act} {w : World} (hm : P.follows .mixedOrders = true) (F : Act → Array Bool → Act → World → Prop)
    (h0 : F a (Array.replicate ops.size false) a w.drew)
    (hstep : ∀ i listed a' w', F a listed a' w' → i ∈ Region.ready .any ops listed → wpOp P ops Q i (F a (listed.setIfInBounds i true)) a' w')
    (hend : ∀ listed a' w', F a listed a' w' → Region.ready .any ops listed = [] → Q .normal a' w') : (Code.region id ops true).wp P Q a w :=
  wp_region_any hm (wpAny_inv (F a) hstep hend ops.size _ a w.drew (by simp) h0)

/-- Where nothing may come up, all has come up. -/
theorem ready_next {md : Region.Mode} {ops : Array Oper} {listed : Array Bool} (hr : Region.ready md ops listed = []) (i : Nat) {o : Oper} (ho : ops[i]? = some o) (hd : ∀ e ∈ o.after.toList, listed.getD e.on false = true) : listed.getD i true = true := by
  by_cases h : listed.getD i true = true
  · exact h
  · have : i ∈ Region.ready md ops listed := mem_ready.2 ⟨by simpa using h, o, ho, fun e he _ => hd e (Array.mem_toList_iff.2 he)⟩
    rw [hr] at this
    cases this
/-- What has come up ahead of an operation that may come up. -/
theorem ready_dep {md : Region.Mode} {ops : Array Oper} {listed : Array Bool} {i : Nat} (hr : i ∈ Region.ready md ops listed) {o : Oper} (ho : ops[i]? = some o) (e : Edge) (he : e ∈ o.after.toList) (hb : Region.binds md e = true) : listed.getD e.on false = true := by
  obtain ⟨_, o', ho', h⟩ := mem_ready.1 hr
  rw [ho] at ho'
  cases ho'
  exact h e (Array.mem_toList_iff.1 he) hb
theorem ready_lt {md : Region.Mode} {ops : Array Oper} {listed : Array Bool} {i : Nat} (hr : i ∈ Region.ready md ops listed) : i < ops.size := by
  obtain ⟨_, o', ho', h⟩ := mem_ready.1 hr
  exact (Array.getElem?_eq_some_iff.1 ho').1
end Go.Proofs.Ytkipmogmejfmcaa
