/-
  OWN WORK. The program's book: a pair comes to it.
-/
import Derived.Test.YtkipmogmejfmcaaBMap
import Derived.Deep.CutRange
import Derived.Deep.RegionLaw
namespace Go.Proofs.Ytkipmogmejfmcaa
open Go.RowKit
attribute [local go_sem] run_store_float
set_option linter.unusedVariables false

theorem MapAt.bt {S : List Nat} {w wx : World} {mb : Nat} {ps : List PD} (hb : Bt S w wx) (hn : mb ∉ S) (h : MapAt w mb ps) : MapAt wx mb ps := by
  obtain ⟨es, clock, h1, h2⟩ := h
  exact ⟨es, clock, (hb.block mb (Array.getElem?_eq_some_iff.1 h1).1 hn).trans h1, h2⟩
theorem cont_app {ds : List PD} {p : PD} {ar : Array Value} (h : Cont ds ar ds.length) : Cont (ds ++ [p]) ar ds.length := by
  intro i q hi hq j v hv
  rw [List.getElem?_append_left hi] at hq
  exact h i q hi hq j v hv

/-- append as a step of a region that draws, its run being known. -/
theorem step_append_run {P : Program} {ops : Array Oper} {o : Oper} {a : Act} {w : World} {K : Act → World → Prop} {Q : Exit → Act → World → Prop} {E : Prop}
    (hg : o.guard = none) (s x : Operand) (t : TypeId) (hop : o.op = Op.call { callee := Callee.builtin Builtin.append, args := #[s, x], argTypes := #[t, t] })
    (sv xv v' : Value) (w' : World) (hs : a.eval s = sv) (hx : a.eval x = xv) (hrun : (Builtin.append_ #[t, t] o.type #[sv, xv]).run P w = .ok v' w') (hK : K (a.put o.dst v') w') :
    if Region.wanted o (yielded ops a.tmps) = true then Oper.wp P o a w K Q else E := by
  have hw : Region.wanted o (yielded ops a.tmps) = true := by simp [Region.wanted, hg]
  rw [if_pos hw]
  unfold Oper.wp
  simp [execOp, hop, resolve, invoke, builtin, hs, hx, hrun, Result.andThen]
  exact hK

/-- A book in memory. -/
structure Book (w : World) (bk lb mb cap : Nat) (ds : List PD) (turns : Int) : Prop where
  head : w.heap[bk]? = some (.cells #[.slice (some ⟨lb, 0, none⟩) ds.length cap, .map (some mb), .int .i64 turns] 120)
  row : ∃ ar, w.heap[lb]? = some (.cells ar 60) ∧ ar.size = cap * 11 ∧ Cont ds ar ds.length
  map : MapAt w mb ds
  ne1 : bk ≠ lb
  ne2 : bk ≠ mb
  ne3 : lb ≠ mb

theorem Book.later {w wx : World} {bk lb mb cap : Nat} {ds : List PD} {turns : Int} (hb : Below w.heap.size w wx) (h : Book w bk lb mb cap ds turns) : Book wx bk lb mb cap ds turns := by
  obtain ⟨h1, ⟨ar, h2, h3, h4⟩, h5, n1, n2, n3⟩ := h
  exact ⟨(hb.block bk (Array.getElem?_eq_some_iff.1 h1).1).trans h1, ⟨ar, (hb.block lb (Array.getElem?_eq_some_iff.1 h2).1).trans h2, h3, h4⟩, h5.later hb, n1, n2, n3⟩

theorem boxp (w : World) (p : PD) (t : TypeId) : ∃ w1, w1 = w.alloc (.cells #[.int .i64 p.key.k, .int .i64 p.key.n, .float .f64 p.key.f, .string p.key.s, .int .i64 p.key.r, .int .i64 p.val.k, .int .i64 p.val.n, .float .f64 p.val.f, .string p.val.s, .int .i64 p.val.r, .int .i64 p.turn] t) ∧ Below w.heap.size w w1 ∧ PBox w1 w.heap.size p := by
  refine ⟨_, rfl, bw1 _ _, ?_⟩
  unfold PBox
  refine ⟨?_, ?_, ?_, ?_, ?_, ?_, ?_, ?_, ?_, ?_, ?_⟩ <;> simp [go_sem]

set_option maxRecDepth 20000 in
set_option maxHeartbeats 1000000 in
theorem add_any (p : PD) (bk lb mb cap : Nat) (ds : List PD) (turns : Int) (w : World) (hB : Book w bk lb mb cap ds turns) (hroom : ds.length < cap) (h0 : eidx p.key ds 0 < 0) (hcap : cap ≤ 1048577) :
    Calls Try.prog 109 #[.pointer (some ⟨bk, 0, none⟩), PVal p] w fun e w' => e = .returned (.tuple #[]) ∧ Book w' bk lb mb cap (ds ++ [p]) turns ∧ Bt [bk, lb, mb] w w' := by
  have l1 := (Array.getElem?_eq_some_iff.1 hB.head).1
  obtain ⟨_, hlb, _, _⟩ := id hB.row
  have l2 := (Array.getElem?_eq_some_iff.1 hlb).1
  obtain ⟨_, _, hmb, _⟩ := id hB.map
  have l3 := (Array.getElem?_eq_some_iff.1 hmb).1
  obtain ⟨w1, hw, hb, hp⟩ := boxp w p 60
  replace hB := hB.later hb
  have c0 : w1.cell? ⟨bk, 0, none⟩ = some (.slice (some ⟨lb, 0, none⟩) ds.length cap) := by rw [blk_cell hB.head]; rfl
  have c1 : w1.cell? ⟨bk, 1, none⟩ = some (.map (some mb)) := by rw [blk_cell hB.head]; rfl
  have HB : Hid (Book w1 bk lb mb cap ds turns) := hB
  have HP : Hid (PBox w1 w.heap.size p) := hp
  have H0 : Hid (eidx p.key ds 0 < 0) := h0
  obtain ⟨d0, d1, d2, d3, d4, d5, d6, d7, d8, d9, d10⟩ := hp
  have mk := m_key
  clear hB h0
  go_enter Try.func109, Try.ntmps109
  go_upto_region 1 with fail
  rw [← hw]; clear hw
  go_cut [] from 4 to 15 (fun wx => Hid (MapAt wx mb (ds ++ [p])) ∧ Hid (Bt [mb] w1 wx))
  case first =>
    go_region_with (go_at_call 149; refine (ikey_any p _).mono ?_; rintro e w2 ⟨rfl, hx⟩; replace hx := und1 hx; replace c0 := cell_later hx c0; replace c1 := cell_later hx c1; obtain ⟨w3, hu, hM, hT⟩ := run_upd_new p w2 mb ds (HB.out.map.later hx) H0.out; have HM : Hid (MapAt w3 mb (ds ++ [p])) := hM; have HT : Hid (Bt [mb] w1 w3) := (Bt.of_below hx).trans hT; clear hM hT hx)
    all_goals (go_wp2_with fail; go_meet; exact ⟨HM, HT⟩)
  case rest =>
    obtain ⟨HM, HT⟩ := hcut
    clear mk d0 d1 d2 d3 d4 d5 d6 d7 d8 d9 d10 c1
    have hc := HT.out.cell (p := ⟨bk, 0, none⟩) (by simp [HB.out.ne2]) c0
    obtain ⟨d0, d1, d2, d3, d4, d5, d6, d7, d8, d9, d10⟩ := HP.out
    have hne : w.heap.size ∉ [mb] := by simp; omega
    replace d0 := HT.out.cell hne d0; replace d1 := HT.out.cell hne d1; replace d2 := HT.out.cell hne d2; replace d3 := HT.out.cell hne d3; replace d4 := HT.out.cell hne d4; replace d5 := HT.out.cell hne d5; replace d6 := HT.out.cell hne d6; replace d7 := HT.out.cell hne d7; replace d8 := HT.out.cell hne d8; replace d9 := HT.out.cell hne d9; replace d10 := HT.out.cell hne d10
    clear hne c0
    obtain ⟨ar, ha, hs, hC⟩ := HB.out.row
    have n3 := HB.out.ne3
    have n1 := HB.out.ne1
    have n2 := HB.out.ne2
    have hw1 := hb.size
    have hw3 := HT.out.size
    have ha3 : wc.heap[lb]? = some (.cells ar 60) := (HT.out.block lb (by omega) (by simp [n3])).trans ha
    have hk3 : wc.heap[bk]? = some (.cells #[.slice (some ⟨lb, 0, none⟩) ds.length cap, .map (some mb), .int .i64 turns] 120) := (HT.out.block bk (by omega) (by simp [n2])).trans HB.out.head
    obtain ⟨w4, happ, hrow, hbt⟩ := run_app p lb ds.length cap wc.heap.size ar (wc.alloc (.cells #[.int .i64 p.key.k, .int .i64 p.key.n, .float .f64 p.key.f, .string p.key.s, .int .i64 p.key.r, .int .i64 p.val.k, .int .i64 p.val.n, .float .f64 p.val.f, .string p.val.s, .int .i64 p.val.r, .int .i64 p.turn] 60)).drew 53 (by show (wc.heap.push _)[lb]? = _; rw [Array.getElem?_push, if_neg (by omega)]; exact ha3) hs hroom (by show (wc.heap.push _)[wc.heap.size]? = _; rw [Array.getElem?_push, if_pos rfl]; rfl)
    have hk4 : w4.heap[bk]? = some (.cells #[.slice (some ⟨lb, 0, none⟩) ds.length cap, .map (some mb), .int .i64 turns] 120) := (hbt.block bk (by show bk < (wc.heap.push _).size; simp; omega) (by simp [n1])).trans (by show (wc.heap.push _)[bk]? = _; rw [Array.getElem?_push, if_neg (by omega)]; exact hk3)
    have f0 : w4.cell? ⟨bk, 0, none⟩ = some (.slice (some ⟨lb, 0, none⟩) ds.length cap) := by rw [blk_cell hk4]; rfl
    have z0 := blk_frozen hk4
    have c0a : (wc.alloc (.cells #[.int .i64 p.key.k, .int .i64 p.key.n, .float .f64 p.key.f, .string p.key.s, .int .i64 p.key.r, .int .i64 p.val.k, .int .i64 p.val.n, .float .f64 p.val.f, .string p.val.s, .int .i64 p.val.r, .int .i64 p.turn] 60)).cell? ⟨bk, 0, none⟩ = some (.slice (some ⟨lb, 0, none⟩) ds.length cap) := cell_later (bw1 _ _) hc
    have HA : Hid (w4.heap[lb]? = some (.cells (put11 ar (ds.length * 11) p) 60)) := hrow
    have HBT : Hid (Bt [lb] (wc.alloc (.cells #[.int .i64 p.key.k, .int .i64 p.key.n, .float .f64 p.key.f, .string p.key.s, .int .i64 p.key.r, .int .i64 p.val.k, .int .i64 p.val.n, .float .f64 p.val.f, .string p.val.s, .int .i64 p.val.r, .int .i64 p.turn] 60)).drew w4) := hbt
    have HK : Hid (w4.heap[bk]? = some (.cells #[.slice (some ⟨lb, 0, none⟩) ds.length cap, .map (some mb), .int .i64 turns] 120)) := hk4
    have HC : Hid (Cont ds ar ds.length) := hC
    have HS : Hid ((Builtin.append_ #[53, 53] 53 #[.slice (some ⟨lb, 0, none⟩) ds.length cap, .slice (some ⟨wc.heap.size, 0, none⟩) 1 1]).run Try.prog (wc.alloc (.cells #[.int .i64 p.key.k, .int .i64 p.key.n, .float .f64 p.key.f, .string p.key.s, .int .i64 p.key.r, .int .i64 p.val.k, .int .i64 p.val.n, .float .f64 p.val.f, .string p.val.s, .int .i64 p.val.r, .int .i64 p.turn] 60)).drew = .ok (.slice (some ⟨lb, 0, none⟩) (ds.length + 1) cap) w4) := happ
    clear hrow hbt hk4 hk3 ha3 ha hC happ
    go_wp2_with fail
    go_region_law (refine step_append_run rfl _ _ _ rfl _ _ _ _ rfl rfl HS.out ?_)
    all_goals
      go_end0
      have hBT : Bt [bk, lb, mb] w1 (w4.setCell ⟨bk, 0, none⟩ (.slice (some ⟨lb, 0, none⟩) (ds.length + 1) cap)) := ((((HT.out.mono (T := [bk, lb, mb]) (by simp)).alloc (.cells #[.int .i64 p.key.k, .int .i64 p.key.n, .float .f64 p.key.f, .string p.key.s, .int .i64 p.key.r, .int .i64 p.val.k, .int .i64 p.val.n, .float .f64 p.val.f, .string p.val.s, .int .i64 p.val.r, .int .i64 p.turn] 60)).drew).trans (HBT.out.mono (by simp))).setCell (by simp) _
      refine ⟨rfl, ⟨?_, ⟨put11 ar (ds.length * 11) p, ?_, ?_, ?_⟩, ?_, n1, n2, n3⟩, (Bt.of_below hb).trans hBT⟩
      · rw [blk_set HK.out]; simp
      · rw [Below.heap_setCell _ _ _ _ (by simpa using n1.symm)]; exact HA.out
      · rw [put11_size]; exact hs
      · rw [List.length_append]; exact cont_step (cont_app HC.out) (by simp) hs hroom
      · refine (MapAt.bt ((Bt.refl [bk] _).setCell (by simp) _) (by simpa using n2.symm) ?_)
        exact MapAt.bt HBT.out (by simpa using n3.symm) (HM.out.later (bw1 _ _).drew)
end Go.Proofs.Ytkipmogmejfmcaa
