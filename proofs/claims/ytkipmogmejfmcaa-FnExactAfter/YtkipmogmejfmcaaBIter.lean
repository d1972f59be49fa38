/-
  OWN WORK. After of the program: the iterator over the pairs behind a turn.
-/
import Derived.RangeFuncNested
import Derived.RangeFuncBound
import Derived.RangeFuncCalls
import Derived.RangeFuncLeaves
import Derived.Shelf.Abstract
import Derived.OwnWalkIn
import Derived.TacticsInMore
import Derived.LoopNIn
import Derived.LoopIn
import Derived.Test.YtkipmogmejfmcaaBSrch
namespace Go.Proofs.Ytkipmogmejfmcaa
open Go.RowKit Go.Shelf
attribute [local go_sem] run_store_float Oper.semAt_some
set_option linter.unusedVariables false

theorem split_one {ps : List PD} {turn : Int} {m k : Nat} (h : Split ps turn m) (g : Split ps turn k) : m = k := by
  obtain ⟨h0, h1, h2⟩ := h
  obtain ⟨g0, g1, g2⟩ := g
  rcases Nat.lt_trichotomy m k with hlt | he | hlt
  · exfalso
    have hp : ps[m]? = some (ps[m]'(by omega)) := by simp
    have a1 := g1 m _ hlt hp
    have a2 := h2 m _ (Nat.le_refl _) hp
    omega
  · exact he
  · exfalso
    have hp : ps[k]? = some (ps[k]'(by omega)) := by simp
    have a1 := h1 k _ hlt hp
    have a2 := g2 k _ (Nat.le_refl _) hp
    omega

theorem grown_of {w w' : World} (h : Below w.heap.size w w') : w.grownBy w' none := ⟨h.os, h.tape, h.output, h.size, fun k hk _ => h.block k hk⟩

set_option maxRecDepth 100000 in
set_option maxHeartbeats 2000000 in
theorem iter_in (n l bb tb bk lb mb m n₀ : Nat) (ps : List PD) (turns turn : Int) (J Jx : List PD → World → Prop) (hn : 1 ≤ n) (hlen : ps.length ≤ 1048576) (hS : Split ps turn m) (hU : Up ps)
    (hY : ∀ pre x W, J pre W → pre.length < (ps.drop m).length → YieldAt Fence.wide (n - 1) Try.prog l #[PVal x] W fun e W' =>
      (e = .returned (.bool true) ∧ J (pre ++ [x]) W' ∧ Below n₀ W W') ∨ (e = .returned (.bool false) ∧ Jx (pre ++ [x]) W'))
    (W : World) (hJ : AbidesFrom W.heap.size J) (c0 : W.cell? ⟨bb, 0, none⟩ = some (.pointer (some ⟨bk, 0, none⟩))) (c1 : W.cell? ⟨tb, 0, none⟩ = some (.int .i64 turn)) (hB : Book W bk lb mb (ps.length + 1) ps turns) (hb1 : bb < n₀) (hb2 : tb < n₀) (hb3 : lb < n₀) (h0 : J [] W) :
    CallsIn Fence.wide n Try.prog 110 #[.func (.yield l) #[] #[], .pointer (some ⟨bb, 0, none⟩), .pointer (some ⟨tb, 0, none⟩)] W fun e W' => (∃ v, e = .returned v) ∧
      ((∃ ys, ys = ps.drop m ∧ J ys W') ∨ (∃ pre, pre <+: ps.drop m ∧ Jx pre W')) := by
  have d0 : W.cell? ⟨bk, 0, none⟩ = some (.slice (some ⟨lb, 0, none⟩) ps.length (ps.length + 1)) := by rw [blk_cell hB.head]; rfl
  have HB : Hid (Book W bk lb mb (ps.length + 1) ps turns) := hB
  have HS : Hid (Split ps turn m) := hS
  have HU : Hid (Up ps) := hU
  clear hB hS hU
  refine callsIn_of_wp Try.func110 rfl trivial ?_ rfl
  simp only [Try.ntmps110, List.size_toArray, List.length_cons, List.length_nil, Nat.reduceAdd, Nat.reduceSub, Array.replicate_succ, Array.replicate_zero, List.push_toArray, List.append_toArray, List.nil_append, List.cons_append]
  gi_wp2_with fail
  have hw1 := bw1 W (.cells #[.slice (some ⟨lb, 0, none⟩) ps.length (ps.length + 1)] 53)
  refine ⟨trivial, (callsIn_wide.2 (srch_any W.heap.size tb lb (ps.length + 1) ps turn _ hlen (by simp [go_sem]) (cell_later hw1 c1) (HB.out.at.later hw1) HU.out)).mono ?_⟩
  rintro e w1 ⟨⟨m', rfl, hS'⟩, hx⟩
  obtain rfl : m' = m := split_one hS' HS.out
  have q0 : w1.cell? ⟨W.heap.size, 0, none⟩ = some (.slice (some ⟨lb, 0, none⟩) ps.length (ps.length + 1)) := by rw [hx.cell (by simp)]; simp [go_sem]
  have hb := hw1.trans (hx.mono (by simp))
  have hJ1 : J [] w1 := hJ [] W w1 none h0 (grown_of hb) (fun r e => by cases e)
  have HPA : Hid (PAt w1 lb 0 ps) := HB.out.at.later hb
  have hml : m' ≤ ps.length := HS.out.1
  have ncap : ¬ ps.length + 1 = m' := by omega
  have HJ1 : Hid (J [] w1) := hJ1
  have HJ : Hid (AbidesFrom W.heap.size J) := hJ
  have HY : Hid (∀ pre x W, J pre W → pre.length < (ps.drop m').length → YieldAt Fence.wide (n - 1) Try.prog l #[PVal x] W fun e W' =>
      (e = .returned (.bool true) ∧ J (pre ++ [x]) W' ∧ Below n₀ W W') ∨ (e = .returned (.bool false) ∧ Jx (pre ++ [x]) W')) := hY
  clear hx hS' hJ1 hJ hY c0 c1 d0 hw1 h0
  gi_wp2_with fail
  gi_loopw [21] (fun i wr => ∃ k : Nat, i = .int .i64 k ∧ k ≤ ps.length - m' ∧ W.heap.size ≤ wr.heap.size ∧ Hid (PAt wr lb 0 ps) ∧ Hid (J ((ps.drop m').take k) wr)) (fun i _ => ps.length - m' - (intOf i).toNat)
  case atStart => exact ⟨0, rfl, Nat.zero_le _, hb.size, HPA, HJ1⟩
  case round =>
    obtain ⟨k, rfl, hk, hsz, hPA, hJk⟩ := hrel
    by_cases k1 : k < ps.length - m'
    · obtain ⟨p, hpm⟩ : ∃ p, ps[m' + k]? = some p := ⟨ps[m' + k]'(by omega), by simp⟩
      have HM : Hid (ps[m' + k]? = some p) := hpm
      have ce : ∀ j v, p.cells[j]? = some v → wr.cell? ⟨lb, m' * 11 + k * 11 + j, none⟩ = some v := fun j v hv => by
        have := hPA.out (m' + k) p hpm j v hv
        rw [show 0 + (m' + k) * 11 + j = m' * 11 + k * 11 + j by omega] at this; exact this
      have x0 : wr.cell? ⟨lb, m' * 11 + k * 11, none⟩ = some (.int .i64 p.key.k) := ce 0 _ rfl
      have x1 := ce 1 _ rfl; have x2 := ce 2 _ rfl; have x3 := ce 3 _ rfl; have x4 := ce 4 _ rfl; have x5 := ce 5 _ rfl; have x6 := ce 6 _ rfl; have x7 := ce 7 _ rfl; have x8 := ce 8 _ rfl; have x9 := ce 9 _ rfl; have x10 := ce 10 _ rfl
      clear ce hpm
      have hJ' : J ((ps.drop m').take k) (wr.alloc (.cells #[.int .i64 p.key.k, .int .i64 p.key.n, .float .f64 p.key.f, .string p.key.s, .int .i64 p.key.r, .int .i64 p.val.k, .int .i64 p.val.n, .float .f64 p.val.f, .string p.val.s, .int .i64 p.val.r, .int .i64 p.turn] 60)) := HJ.out _ _ _ none hJk.out (grown_of (bw1 _ _)) (fun r e => by cases e)
      obtain ⟨fn, tmps, assign, body, hy, hR⟩ := HY.out _ p _ hJ' (by rw [List.length_take, List.length_drop]; omega)
      clear hJ'
      have HT : Hid ((ps.drop m').take (k + 1) = (ps.drop m').take k ++ [p]) := take_snoc (by rw [List.getElem?_drop]; exact HM.out)
      have HPx : Hid (PAt (wr.alloc (.cells #[.int .i64 p.key.k, .int .i64 p.key.n, .float .f64 p.key.f, .string p.key.s, .int .i64 p.key.r, .int .i64 p.val.k, .int .i64 p.val.n, .float .f64 p.val.f, .string p.val.s, .int .i64 p.val.r, .int .i64 p.turn] 60)) lb 0 ps) := hPA.out.later (bw1 _ _)
      gi_wp2_with fail
      refine hR.mono ?_
      clear hR hy x0 x1 x2 x3 x4 x5 x6 x7 x8 x9 x10
      rintro e W3 (⟨rfl, hJ3, hk3⟩ | ⟨rfl, hJx3⟩)
      · have hs3 := hk3.size
        have HK3 : Hid (Below n₀ (wr.alloc (.cells #[.int .i64 p.key.k, .int .i64 p.key.n, .float .f64 p.key.f, .string p.key.s, .int .i64 p.key.r, .int .i64 p.val.k, .int .i64 p.val.n, .float .f64 p.val.f, .string p.val.s, .int .i64 p.val.r, .int .i64 p.turn] 60)) W3) := hk3
        have HJ3 : Hid (J ((ps.drop m').take k ++ [p]) W3) := hJ3
        simp at hs3
        clear hk3 hJ3
        gi_wp2_with fail
        go_roundw
        case rel => exact ⟨k + 1, by go_num, by omega, by omega, fun i q hi j v hv => (HK3.out.cell (p := ⟨lb, 0 + i * 11 + j, none⟩) hb3).trans (HPx.out i q hi j v hv), by have := HJ3.out; rw [← HT.out] at this; exact this⟩
        case measure => simp [intOf]; omega
      · have HX : Hid (Jx ((ps.drop m').take k ++ [p]) W3) := hJx3
        clear hJx3
        gi_wp2_with fail
        refine bodyPost_ret (results_none rfl _ _ _) rfl ?_
        exact ⟨⟨_, rfl⟩, .inr ⟨_, by rw [← HT.out]; exact List.take_prefix _ _, HX.out⟩⟩
    · have HJe : Hid (J (ps.drop m') wr) := by have := hJk.out; rw [List.take_of_length_le (by rw [List.length_drop]; omega)] at this; exact this
      clear hJk
      gi_wp2_with fail
      go_end0
      exact ⟨⟨_, rfl⟩, .inl ⟨_, rfl, HJe.out⟩⟩
end Go.Proofs.Ytkipmogmejfmcaa
