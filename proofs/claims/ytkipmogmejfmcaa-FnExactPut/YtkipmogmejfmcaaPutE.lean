import Derived.Test.YtkipmogmejfmcaaPutB
import Derived.Test.YtkipmogmejfmcaaPutA
import Derived.Test.YtkipmogmejfmcaaPutD
/-
  OWN WORK. The law on Put.
-/
namespace Go.Proofs.Ytkipmogmejfmcaa.lawPut
open Go.ChangeShapes Go.WideShapes Go.ChangeAt Go.RowKit
attribute [local go_sem] run_store_float
set_option linter.unusedVariables false

theorem flt_lt {f : Nat} (h : (Lit.float .f64 f).wf = true) : f < 18446744073709551616 := by simpa [Lit.wf] using h

/-- The three boxes ahead: the law's table, its key, its value. -/
structure Ahead (w : World) (B : Nat) (sv : Value) (tu : Int) (q v : VD) : Prop where
  t0 : w.cell? ⟨B, 0, none⟩ = some sv
  t1 : w.cell? ⟨B, 1, none⟩ = some (.int .i64 tu)
  kb : VBox w (B + 1) q
  vb : VBox w (B + 2) v
theorem VBox.bt {S : List Nat} {w wx : World} {b : Nat} {v : VD} (hb : Bt S w wx) (hn : b ∉ S) (h : VBox w b v) : VBox wx b v := ⟨hb.cell hn h.1, hb.cell hn h.2.1, hb.cell hn h.2.2.1, hb.cell hn h.2.2.2.1, hb.cell hn h.2.2.2.2⟩
theorem Ahead.later {w wx : World} {B : Nat} {sv : Value} {tu : Int} {q v : VD} (hb : Below w.heap.size w wx) (h : Ahead w B sv tu q v) : Ahead wx B sv tu q v := ⟨cell_later hb h.t0, cell_later hb h.t1, VBox.later hb h.kb, VBox.later hb h.vb⟩
theorem Ahead.bt {S : List Nat} {w wx : World} {B : Nat} {sv : Value} {tu : Int} {q v : VD} (hb : Bt S w wx) (hS : ∀ x ∈ S, B + 3 ≤ x) (h : Ahead w B sv tu q v) : Ahead wx B sv tu q v := by
  have n : ∀ x, x < B + 3 → x ∉ S := fun x hx hm => absurd (hS x hm) (by omega)
  exact ⟨hb.cell (n _ (by show B < _; omega)) h.t0, hb.cell (n _ (by show B < _; omega)) h.t1, VBox.bt hb (n _ (by omega)) h.kb, VBox.bt hb (n _ (by omega)) h.vb⟩
theorem Ahead.lt {w : World} {B : Nat} {sv : Value} {tu : Int} {q v : VD} (h : Ahead w B sv tu q v) : B + 2 < w.heap.size := World.block_lt_of_cell? _ _ h.vb.1

/-- What toTable leaves. -/
def R1 (w : World) (ps : List PD) (tu : Int) (x : Value) : Prop := ∃ g, x = .agg #[.slice (some ⟨g, 0, none⟩) ps.length ps.length, .int .i64 tu] ∧ Row w g ps.length ps
/-- What Put leaves. -/
def R6 (w : World) (N : Nat) (L : List PD) (T : Int) (x : Value) : Prop := ∃ s, x = .agg #[s, .int .i64 T] ∧ TRow w N s L
/-- A new box. -/
def R7 (w : World) (N : Nat) (x : Value) : Prop := ∃ k, x = .pointer (some ⟨k, 0, none⟩) ∧ N ≤ k ∧ ∃ u0 u1 t, w.heap[k]? = some (.cells #[u0, u1] t)
/-- They lie apart. -/
def R67 (x y : Value) : Prop := ∀ s t k, x = .agg #[s, t] → y = .pointer (some ⟨k, 0, none⟩) → k ∉ s.ownBlock.toList
/-- A table in a box. -/
def TBox (w : World) (k : Nat) (s : Value) (T : Int) : Prop := w.cell? ⟨k, 0, none⟩ = some s ∧ w.cell? ⟨k, 1, none⟩ = some (.int .i64 T)
theorem R1.later {w wx : World} {ps : List PD} {tu : Int} {x : Value} (hb : Below w.heap.size w wx) (h : R1 w ps tu x) : R1 wx ps tu x := by
  obtain ⟨g, h1, h2⟩ := h; exact ⟨g, h1, h2.later hb⟩
theorem R6.later {w wx : World} {N : Nat} {L : List PD} {T : Int} {x : Value} (hb : Below w.heap.size w wx) (h : R6 w N L T x) : R6 wx N L T x := by
  obtain ⟨s, h1, h2⟩ := h; exact ⟨s, h1, h2.later hb⟩
theorem R7.later {w wx : World} {N : Nat} {x : Value} (hb : Below w.heap.size w wx) (h : R7 w N x) : R7 wx N x := by
  obtain ⟨k, h1, h2, u0, u1, t, h3⟩ := h; exact ⟨k, h1, h2, u0, u1, t, (hb.block k (Array.getElem?_eq_some_iff.1 h3).1).trans h3⟩
theorem TBox.later {w wx : World} {k : Nat} {s : Value} {T : Int} (hb : Below w.heap.size w wx) (h : TBox w k s T) : TBox wx k s T := ⟨cell_later hb h.1, cell_later hb h.2⟩
theorem TBox.bt {S : List Nat} {w wx : World} {k : Nat} {s : Value} {T : Int} (hb : Bt S w wx) (hn : k ∉ S) (h : TBox w k s T) : TBox wx k s T := ⟨hb.cell hn h.1, hb.cell hn h.2⟩

/-- What holds while a statement 'x := Put(..)' is under way: what has come up has left its value. -/
structure RI (N : Nat) (wb w' : World) (sv : Value) (tu : Int) (ps : List PD) (q v : VD) (L : List PD) (T : Int) (b0 b1 b2 b3 b4 b5 b6 b7 : Bool) (x0 x1 x2 x3 x4 x5 x6 x7 : Value) : Prop where
  hb : Below wb.heap.size wb w'
  h0 : b0 = true → x0 = .agg #[sv, .int .i64 tu]
  h1 : b1 = true → R1 w' ps tu x1
  h2 : b2 = true → x2 = q.v
  h3 : b3 = true → x3 = q.v
  h4 : b4 = true → x4 = v.v
  h5 : b5 = true → x5 = v.v
  h6 : b6 = true → R6 w' N L T x6
  h7 : b7 = true → R7 w' N x7
  h67 : b6 = true → b7 = true → R67 x6 x7
theorem RI.later {N : Nat} {wb w' w'' : World} {sv : Value} {tu : Int} {ps : List PD} {q v : VD} {L : List PD} {T : Int} {b0 b1 b2 b3 b4 b5 b6 b7 : Bool} {x0 x1 x2 x3 x4 x5 x6 x7 : Value} (hx : Below w'.heap.size w' w'') (h : RI N wb w' sv tu ps q v L T b0 b1 b2 b3 b4 b5 b6 b7 x0 x1 x2 x3 x4 x5 x6 x7) : RI N wb w'' sv tu ps q v L T b0 b1 b2 b3 b4 b5 b6 b7 x0 x1 x2 x3 x4 x5 x6 x7 :=
  ⟨h.hb.trans (hx.mono h.hb.size), h.h0, fun e => (h.h1 e).later hx, h.h2, h.h3, h.h4, h.h5, fun e => (h.h6 e).later hx, fun e => (h.h7 e).later hx, h.h67⟩
/-- What it leaves. -/
def RD (N : Nat) (wb w' : World) (L : List PD) (T : Int) (x7 : Value) : Prop := ∃ k s, x7 = .pointer (some ⟨k, 0, none⟩) ∧ N ≤ k ∧ TBox w' k s T ∧ TRow w' N s L ∧ k ∉ s.ownBlock.toList ∧ Below wb.heap.size wb w'

theorem boxt (w : World) (a b : Value) (t : TypeId) : Below w.heap.size w (w.alloc (.cells #[a, b] t)) ∧ (w.alloc (.cells #[a, b] t)).cell? ⟨w.heap.size, 0, none⟩ = some a ∧ (w.alloc (.cells #[a, b] t)).cell? ⟨w.heap.size, 1, none⟩ = some b := by
  refine ⟨bw1 _ _, ?_, ?_⟩ <;> simp [go_sem]
theorem Row.lt {w : World} {g len : Nat} {ps : List PD} (h : Row w g len ps) : g < w.heap.size := by
  obtain ⟨ar, h1, h2, h3⟩ := h
  exact (Array.getElem?_eq_some_iff.1 h1).1
theorem trow_of {w : World} {N g : Nat} {ps : List PD} (hg : N ≤ g) (h : Row w g ps.length ps) : TRow w N (.slice (some ⟨g, 0, none⟩) ps.length ps.length) ps := by
  obtain ⟨ar, h1, h2, h3⟩ := h
  exact .inr ⟨g, ps.length, ar, rfl, hg, h1, by omega, h3⟩
theorem ansL_le {ps : List PD} {tu : Int} {q v : VD} : (ansL ps tu q v).length ≤ 1048576 := by
  by_cases h : putGood ps tu q v = true
  · have h1 := ansL_len ps tu q v
    have h2 : tokV ps tu = true := by unfold putGood at h; simp only [Bool.and_eq_true] at h; exact h.1.1
    have h3 := (tokV_len h2).1
    omega
  · unfold ansL; rw [if_neg h]; simp

/-- Where the law's things lie: apart, in the order in which they came. -/
structure Od (B N8 k8 : Nat) (s8 : Value) (Nx gx kx N10 k10 : Nat) (s10 : Value) : Prop where
  a : B + 3 ≤ N8
  b : N8 ≤ k8
  c : k8 < Nx
  d : ∀ x ∈ s8.ownBlock.toList, x < Nx
  e : Nx ≤ gx
  f : gx < kx
  g : kx < N10
  h : N10 ≤ k10
  i : k10 ∉ s10.ownBlock.toList
/-- The law's things at a world: its arguments; what the specification answered; the program's argument; what the program answered. -/
structure St (w0 w' : World) (sv : Value) (tu : Int) (q v : VD) (N8 k8 : Nat) (s8 : Value) (L : List PD) (T : Int) (Nx gx kx n : Nat) (P : List PD) (N10 k10 : Nat) (s10 : Value) (Q : List PD) : Prop where
  hb : Below w0.heap.size w0 w'
  hA : Ahead w' w0.heap.size sv tu q v
  t8 : TBox w' k8 s8 T
  r8 : TRow w' N8 s8 L
  tx : TBox w' kx (.slice (some ⟨gx, 0, none⟩) n n) tu
  rx : TRow w' Nx (.slice (some ⟨gx, 0, none⟩) n n) P
  t10 : TBox w' k10 s10 T
  r10 : TRow w' N10 s10 Q
theorem St.later {w0 w' w'' : World} {sv : Value} {tu : Int} {q v : VD} {N8 k8 : Nat} {s8 : Value} {L : List PD} {T : Int} {Nx gx kx n : Nat} {P : List PD} {N10 k10 : Nat} {s10 : Value} {Q : List PD} (hx : Below w'.heap.size w' w'') (h : St w0 w' sv tu q v N8 k8 s8 L T Nx gx kx n P N10 k10 s10 Q) : St w0 w'' sv tu q v N8 k8 s8 L T Nx gx kx n P N10 k10 s10 Q :=
  ⟨h.hb.trans (hx.mono h.hb.size), h.hA.later hx, h.t8.later hx, h.r8.later hx, h.tx.later hx, h.rx.later hx, h.t10.later hx, h.r10.later hx⟩
theorem St.markx {w0 w' w'' : World} {sv : Value} {tu : Int} {q v : VD} {N8 k8 : Nat} {s8 : Value} {L : List PD} {T : Int} {Nx gx kx n : Nat} {P P' : List PD} {N10 k10 : Nat} {s10 : Value} {Q : List PD} (od : Od w0.heap.size N8 k8 s8 Nx gx kx N10 k10 s10) (hx : Bt [gx] w' w'') (hr : TRow w'' Nx (.slice (some ⟨gx, 0, none⟩) n n) P') (h : St w0 w' sv tu q v N8 k8 s8 L T Nx gx kx n P N10 k10 s10 Q) : St w0 w'' sv tu q v N8 k8 s8 L T Nx gx kx n P' N10 k10 s10 Q := by
  obtain ⟨a, b, c, d, e, f, g, hh, i⟩ := od
  refine ⟨h.hb.trans (hx.below h.hb.size (by simp; omega)), h.hA.bt hx (by simp; omega), h.t8.bt hx (by simp; omega), h.r8.bt hx (fun x hm hy => ?_), h.tx.bt hx (by simp; omega), hr, h.t10.bt hx (by simp; omega), h.r10.bt hx (fun x hm hy => ?_)⟩
  · simp only [List.mem_singleton] at hm
    have := d x hy
    omega
  · simp only [List.mem_singleton] at hm
    have := (h.r10.ge x hy).1
    omega
theorem St.mark10 {w0 w' w'' : World} {sv : Value} {tu : Int} {q v : VD} {N8 k8 : Nat} {s8 : Value} {L : List PD} {T : Int} {Nx gx kx n : Nat} {P : List PD} {N10 k10 : Nat} {s10 : Value} {Q Q' : List PD} (od : Od w0.heap.size N8 k8 s8 Nx gx kx N10 k10 s10) (hx : Bt s10.ownBlock.toList w' w'') (hr : TRow w'' N10 s10 Q') (h : St w0 w' sv tu q v N8 k8 s8 L T Nx gx kx n P N10 k10 s10 Q) : St w0 w'' sv tu q v N8 k8 s8 L T Nx gx kx n P N10 k10 s10 Q' := by
  obtain ⟨a, b, c, d, e, f, g, hh, i⟩ := od
  have ge : ∀ x ∈ s10.ownBlock.toList, N10 ≤ x := fun x hm => (h.r10.ge x hm).1
  refine ⟨h.hb.trans (hx.below h.hb.size (fun x hm => by have := ge x hm; omega)), h.hA.bt hx (fun x hm => by have := ge x hm; omega), h.t8.bt hx (fun hm => by have := ge _ hm; omega), h.r8.bt hx (fun x hm hy => by have := ge x hm; have := d x hy; omega), h.tx.bt hx (fun hm => by have := ge _ hm; omega), h.rx.bt hx (fun x hm hy => ?_), h.t10.bt hx i, hr⟩
  simp only [Value.ownBlock, Option.toList_some, List.mem_singleton] at hy
  have := ge x hm
  omega

set_option maxRecDepth 20000 in
set_option maxHeartbeats 16000000 in
theorem walkD (sv : Value) (tu : Int) (ps : List PD) (q v : VD) (w : World) (ta : TArg w sv ps) (po : ∀ p ∈ ps, p.ok) (pl : ps.length ≤ maxLen) (hq : q.ok) (hv : v.ok) :
    Calls Try.prog 14 #[.agg #[sv, .int .i64 tu], q.v, v.v] w fun e w' => e = .returned (.bool true) ∧ Below w.heap.size w w' := by
  have TA : Hid (TArg w sv ps) := ta
  have HQ : Hid q.ok := hq
  have HV : Hid v.ok := hv
  have HO : Hid (∀ p ∈ ps, p.ok) := po
  have hqs := hq.2
  have hvs := hv.2
  clear ta po hq hv
  go_enter Try.func14, Try.ntmps14
  go_wp2_with fail
  refine (szt_arg sv ps tu 1048576 _ (TA.out.later (bw3 _ _ _ _)) HO.out pl (by omega) (by omega)).mono ?_
  rintro e w1 ⟨⟨l, rfl, hr⟩, hx⟩
  have hA : Ahead w1 w.heap.size sv tu q v := by
    obtain ⟨b0, b1, b2⟩ := heap3 w (.cells #[sv, .int .i64 tu] 50) (.cells #[.int .i64 q.k, .int .i64 q.n, .float .f64 q.f, .string q.s, .int .i64 q.r] 24) (.cells #[.int .i64 v.k, .int .i64 v.n, .float .f64 v.f, .string v.s, .int .i64 v.r] 24)
    have b0' := (hx.block w.heap.size (by simp; omega)).trans b0
    have b1' := (hx.block (w.heap.size + 1) (by simp)).trans b1
    have b2' := (hx.block (w.heap.size + 2) (by simp)).trans b2
    exact ⟨by rw [blk_cell b0']; rfl, by rw [blk_cell b0']; rfl, ⟨by rw [blk_cell b1']; rfl, by rw [blk_cell b1']; rfl, by rw [blk_cell b1']; rfl, by rw [blk_cell b1']; rfl, by rw [blk_cell b1']; rfl⟩, ⟨by rw [blk_cell b2']; rfl, by rw [blk_cell b2']; rfl, by rw [blk_cell b2']; rfl, by rw [blk_cell b2']; rfl, by rw [blk_cell b2']; rfl⟩⟩
  have hb := (bw3 _ _ _ _).trans (hx.mono (by simp; omega))
  clear hx
  rcases hr with rfl | ⟨hr0, hr1⟩
  · go_wp2_with fail
    go_ret
    exact ⟨rfl, hb⟩
  have hlen : ps.length ≤ 1048576 := by omega
  obtain ⟨t0, t1, ⟨k0, k1, k2, k3, k4⟩, ⟨v0, v1, v2, v3, v4⟩⟩ := id hA
  by_cases hc : l - q.s.size < 0
  · go_wp2_with fail
    refine (sz_no _ _ _ _ _ _ _ hqs hr0 (by omega) hc).mono ?_
    rintro e w2 ⟨rfl, hx⟩
    replace hb := hb.trans (hx.mono hb.size)
    go_wp2_with fail
    go_ret
    exact ⟨rfl, hb⟩
  go_wp2_with fail
  refine (sz_ok _ _ _ _ _ _ _ hqs (by omega) (by omega)).mono ?_
  rintro e wa ⟨rfl, hx⟩
  replace hb := hb.trans (hx.mono hb.size)
  replace hA := Ahead.later hx hA
  clear hx t0 t1 k0 k1 k2 k3 k4 v0 v1 v2 v3 v4
  obtain ⟨l2, hl2⟩ : ∃ l2 : Int, l2 = l - q.s.size := ⟨_, rfl⟩
  rw [← hl2] at hc ⊢
  have hl2' : l2 ≤ 1048576 := by omega
  clear hl2
  obtain ⟨t0, t1, ⟨k0, k1, k2, k3, k4⟩, ⟨v0, v1, v2, v3, v4⟩⟩ := id hA
  by_cases hc2 : l2 - v.s.size < 0
  · go_wp2_with fail
    refine (sz_no _ _ _ _ _ _ _ hvs (by omega) (by omega) hc2).mono ?_
    rintro e w2 ⟨rfl, hx⟩
    replace hb := hb.trans (hx.mono hb.size)
    go_wp2_with fail
    go_ret
    exact ⟨rfl, hb⟩
  go_wp2_with fail
  refine (sz_ok _ _ _ _ _ _ _ hvs (by omega) (by omega)).mono ?_
  rintro e wb ⟨rfl, hx⟩
  replace hb := hb.trans (hx.mono hb.size)
  replace hA := Ahead.later hx hA
  clear hx t0 t1 k0 k1 k2 k3 k4 v0 v1 v2 v3 v4
  have HA : Hid (Ahead wb w.heap.size sv tu q v) := hA
  clear hA
  go_upto_region 11 with fail
  obtain ⟨L, hL⟩ : ∃ L, L = ansL ps tu q v := ⟨_, rfl⟩
  obtain ⟨T, hT⟩ : ∃ T, T = ansT ps tu q v := ⟨_, rfl⟩
  have HL : Hid (L = ansL ps tu q v ∧ T = ansT ps tu q v) := ⟨hL, hT⟩
  clear hL hT
  have hzA := HA.out.lt
  have HZA : Hid (w.heap.size + 2 < wb.heap.size) := hzA
  clear hzA
  go_cut [8] from 30 to 36 (fun s8 wx => Hid (RD wb.heap.size wb wx L T s8))
  case first =>
    refine wp_region_inv (by kernel_rfl) (fun base listed a' w' => ∃ b0 b1 b2 b3 b4 b5 b6 b7 b8 x0 x1 x2 x3 x4 x5 x6 x7, listed = #[b0, b1, b2, b3, b4, b5, b6, b7, b8] ∧ a' = ((((((((base.put (some 30) x0).put (some 31) x1).put (some 32) x2).put (some 33) x3).put (some 34) x4).put (some 35) x5).put (some 36) x6).put (some 8) x7) ∧ (b8 = false → RI wb.heap.size wb w' sv tu ps q v L T b0 b1 b2 b3 b4 b5 b6 b7 x0 x1 x2 x3 x4 x5 x6 x7) ∧ (b8 = true → RD wb.heap.size wb w' L T x7 ∧ b0 = true ∧ b1 = true ∧ b2 = true ∧ b3 = true ∧ b4 = true ∧ b5 = true ∧ b6 = true ∧ b7 = true)) ?_ ?_ ?_
    · exact ⟨false, false, false, false, false, false, false, false, false, undef, undef, undef, undef, undef, undef, undef, undef, rfl, by kernel_rfl, fun _ => ⟨(Below.refl _ _).drew, nofun, nofun, nofun, nofun, nofun, nofun, nofun, nofun, nofun⟩, nofun⟩
    · rintro i listed a' w' ⟨b0, b1, b2, b3, b4, b5, b6, b7, b8, x0, x1, x2, x3, x4, x5, x6, x7, rfl, rfl, hI, hD⟩ hr
      have hi := ready_lt hr
      have hun := (mem_ready.1 hr).1
      simp only [List.size_toArray, List.length_cons, List.length_nil, Nat.zero_add, Nat.reduceAdd] at hi
      have hi' : i = 0 ∨ i = 1 ∨ i = 2 ∨ i = 3 ∨ i = 4 ∨ i = 5 ∨ i = 6 ∨ i = 7 ∨ i = 8 := by omega
      clear hi
      rcases hi' with rfl | rfl | rfl | rfl | rfl | rfl | rfl | rfl | rfl
      · have hbi : b0 = false := by simpa using hun
        have hb8 : b8 = false := by
          cases b8 with
          | false => rfl
          | true =>
            obtain ⟨_, e0, e1, e2, e3, e4, e5, e6, e7⟩ := hD rfl
            rw [e0] at hbi; cases hbi
        subst hbi hb8 
        replace hI := hI rfl
        clear hD hr hun
        obtain ⟨t0, t1, _, _⟩ := HA.out.later hI.hb
        refine wpOp_step rfl (fun K hK => ?_)
        go_simp
        refine hK _ _ ⟨true, b1, b2, b3, b4, b5, b6, b7, false, .agg #[sv, .int .i64 tu], x1, x2, x3, x4, x5, x6, x7, rfl, by kernel_rfl, fun _ => { hI with h0 := fun _ => rfl }, nofun⟩
      · have hbi : b1 = false := by simpa using hun
        have hb8 : b8 = false := by
          cases b8 with
          | false => rfl
          | true =>
            obtain ⟨_, e0, e1, e2, e3, e4, e5, e6, e7⟩ := hD rfl
            rw [e1] at hbi; cases hbi
        have e0 : b0 = true := by simpa using ready_dep hr rfl ⟨0, .data⟩ (by simp) rfl
        subst hbi hb8 e0
        replace hI := hI rfl
        clear hD hr hun
        obtain rfl := hI.h0 rfl
        refine wpOp_step rfl (fun K hK => ?_)
        go_simp
        refine (tot_arg sv ps tu _ (TA.out.later (hb.trans (hI.hb.mono hb.size))) hlen).mono ?_
        rintro e w2 ⟨⟨g, hg, rfl, hR⟩, hx⟩
        have hI2 := hI.later hx
        refine hK _ _ ⟨true, true, b2, b3, b4, b5, b6, b7, false, .agg #[sv, .int .i64 tu], (.agg #[.slice (some ⟨g, 0, none⟩) ps.length ps.length, .int .i64 tu]), x2, x3, x4, x5, x6, x7, rfl, by kernel_rfl, fun _ => { hI2 with h1 := fun _ => ⟨g, rfl, hR⟩ }, nofun⟩
      · have hbi : b2 = false := by simpa using hun
        have hb8 : b8 = false := by
          cases b8 with
          | false => rfl
          | true =>
            obtain ⟨_, e0, e1, e2, e3, e4, e5, e6, e7⟩ := hD rfl
            rw [e2] at hbi; cases hbi
        subst hbi hb8 
        replace hI := hI rfl
        clear hD hr hun
        obtain ⟨_, _, ⟨k0, k1, k2, k3, k4⟩, _⟩ := HA.out.later hI.hb
        refine wpOp_step rfl (fun K hK => ?_)
        go_simp
        refine hK _ _ ⟨b0, b1, true, b3, b4, b5, b6, b7, false, x0, x1, q.v, x3, x4, x5, x6, x7, rfl, by kernel_rfl, fun _ => { hI with h2 := fun _ => rfl }, nofun⟩
      · have hbi : b3 = false := by simpa using hun
        have hb8 : b8 = false := by
          cases b8 with
          | false => rfl
          | true =>
            obtain ⟨_, e0, e1, e2, e3, e4, e5, e6, e7⟩ := hD rfl
            rw [e3] at hbi; cases hbi
        have e2 : b2 = true := by simpa using ready_dep hr rfl ⟨2, .data⟩ (by simp) rfl
        subst hbi hb8 e2
        replace hI := hI rfl
        clear hD hr hun
        obtain rfl := hI.h2 rfl
        refine wpOp_step rfl (fun K hK => ?_)
        go_simp
        refine (to_any _ _ _ _ _ _).mono ?_
        rintro e w2 ⟨rfl, hx⟩
        have hI2 := hI.later hx
        refine hK _ _ ⟨b0, b1, true, true, b4, b5, b6, b7, false, x0, x1, q.v, q.v, x4, x5, x6, x7, rfl, by kernel_rfl, fun _ => { hI2 with h3 := fun _ => rfl }, nofun⟩
      · have hbi : b4 = false := by simpa using hun
        have hb8 : b8 = false := by
          cases b8 with
          | false => rfl
          | true =>
            obtain ⟨_, e0, e1, e2, e3, e4, e5, e6, e7⟩ := hD rfl
            rw [e4] at hbi; cases hbi
        subst hbi hb8 
        replace hI := hI rfl
        clear hD hr hun
        obtain ⟨_, _, _, ⟨k0, k1, k2, k3, k4⟩⟩ := HA.out.later hI.hb
        refine wpOp_step rfl (fun K hK => ?_)
        go_simp
        refine hK _ _ ⟨b0, b1, b2, b3, true, b5, b6, b7, false, x0, x1, x2, x3, v.v, x5, x6, x7, rfl, by kernel_rfl, fun _ => { hI with h4 := fun _ => rfl }, nofun⟩
      · have hbi : b5 = false := by simpa using hun
        have hb8 : b8 = false := by
          cases b8 with
          | false => rfl
          | true =>
            obtain ⟨_, e0, e1, e2, e3, e4, e5, e6, e7⟩ := hD rfl
            rw [e5] at hbi; cases hbi
        have e4 : b4 = true := by simpa using ready_dep hr rfl ⟨4, .data⟩ (by simp) rfl
        subst hbi hb8 e4
        replace hI := hI rfl
        clear hD hr hun
        obtain rfl := hI.h4 rfl
        refine wpOp_step rfl (fun K hK => ?_)
        go_simp
        refine (to_any _ _ _ _ _ _).mono ?_
        rintro e w2 ⟨rfl, hx⟩
        have hI2 := hI.later hx
        refine hK _ _ ⟨b0, b1, b2, b3, true, true, b6, b7, false, x0, x1, x2, x3, v.v, v.v, x6, x7, rfl, by kernel_rfl, fun _ => { hI2 with h5 := fun _ => rfl }, nofun⟩
      · have hbi : b6 = false := by simpa using hun
        have hb8 : b8 = false := by
          cases b8 with
          | false => rfl
          | true =>
            obtain ⟨_, e0, e1, e2, e3, e4, e5, e6, e7⟩ := hD rfl
            rw [e6] at hbi; cases hbi
        have e1 : b1 = true := by simpa using ready_dep hr rfl ⟨1, .data⟩ (by simp) rfl
        have e3 : b3 = true := by simpa using ready_dep hr rfl ⟨3, .data⟩ (by simp) rfl
        have e5 : b5 = true := by simpa using ready_dep hr rfl ⟨5, .data⟩ (by simp) rfl
        subst hbi hb8 e1 e3 e5
        replace hI := hI rfl
        clear hD hr hun
        obtain ⟨g, rfl, hR⟩ := hI.h1 rfl
        obtain rfl := hI.h3 rfl
        obtain rfl := hI.h5 rfl
        refine wpOp_step rfl (fun K hK => ?_)
        go_simp
        refine (sput_all g 0 ps.length ps.length ps tu q v _ rfl (hR.at rfl) hlen HO.out HQ.out HV.out).mono ?_
        rintro e w2 ⟨s, rfl, hTR, hx⟩
        rw [← HL.out.1] at hTR
        rw [← HL.out.2]
        have hI2 := hI.later hx
        have hsz := hI.hb.size
        have h67 : b7 = true → R67 (.agg #[s, .int .i64 T]) x7 := fun e s' t' k hs hk hm => by
          obtain ⟨k', hk', _, u0, u1, t, hbk⟩ := hI.h7 e
          rw [hk] at hk'
          cases hk'; cases hs
          have h1 := (Array.getElem?_eq_some_iff.1 hbk).1
          have h2 := (hTR.ge k hm).1
          omega
        refine hK _ _ ⟨b0, true, b2, true, b4, true, true, b7, false, x0, (.agg #[.slice (some ⟨g, 0, none⟩) ps.length ps.length, .int .i64 tu]), x2, q.v, x4, v.v, (.agg #[s, .int .i64 T]), x7, rfl, by kernel_rfl, fun _ => { hI2 with h6 := fun _ => ⟨s, rfl, hTR.mono hsz⟩, h67 := fun _ => h67 }, nofun⟩
      · have hbi : b7 = false := by simpa using hun
        have hb8 : b8 = false := by
          cases b8 with
          | false => rfl
          | true =>
            obtain ⟨_, e0, e1, e2, e3, e4, e5, e6, e7⟩ := hD rfl
            rw [e7] at hbi; cases hbi
        subst hbi hb8 
        replace hI := hI rfl
        clear hD hr hun
        refine wpOp_step rfl (fun K hK => ?_)
        go_simp
        have hI2 := hI.later (bw1 w' (.cells #[.slice none 0 0, .int .i64 0] 55))
        have hsz := hI.hb.size
        have h67 : b6 = true → R67 x6 (.pointer (some ⟨w'.heap.size, 0, none⟩)) := fun e s' t' k hs hk hm => by
          obtain ⟨s, hs', hTR⟩ := hI.h6 e
          rw [hs] at hs'
          cases hs'; cases hk
          have h2 := (hTR.ge _ hm).2
          omega
        refine hK _ _ ⟨b0, b1, b2, b3, b4, b5, b6, true, false, x0, x1, x2, x3, x4, x5, x6, (.pointer (some ⟨w'.heap.size, 0, none⟩)), rfl, by kernel_rfl, fun _ => { hI2 with h7 := fun _ => ⟨w'.heap.size, rfl, hsz, _, _, _, by show (w'.heap.push _)[w'.heap.size]? = _; rw [Array.getElem?_push, if_pos rfl]⟩, h67 := fun e _ => h67 e }, nofun⟩
      · have hb8 : b8 = false := by simpa using hun
        have e0 : b0 = true := by simpa using ready_dep hr rfl ⟨0, .phase⟩ (by simp) rfl
        have e1 : b1 = true := by simpa using ready_dep hr rfl ⟨1, .phase⟩ (by simp) rfl
        have e2 : b2 = true := by simpa using ready_dep hr rfl ⟨2, .phase⟩ (by simp) rfl
        have e3 : b3 = true := by simpa using ready_dep hr rfl ⟨3, .phase⟩ (by simp) rfl
        have e4 : b4 = true := by simpa using ready_dep hr rfl ⟨4, .phase⟩ (by simp) rfl
        have e5 : b5 = true := by simpa using ready_dep hr rfl ⟨5, .phase⟩ (by simp) rfl
        have e6 : b6 = true := by simpa using ready_dep hr rfl ⟨6, .phase⟩ (by simp) rfl
        have e7 : b7 = true := by simpa using ready_dep hr rfl ⟨7, .phase⟩ (by simp) rfl
        subst hb8 e0 e1 e2 e3 e4 e5 e6 e7
        replace hI := hI rfl
        clear hD hr hun
        obtain ⟨s, rfl, hTR⟩ := hI.h6 rfl
        obtain ⟨k, rfl, hk, u0, u1, t, hbk⟩ := hI.h7 rfl
        have hap := hI.h67 rfl rfl s _ k rfl rfl
        have hbw := hI.hb
        obtain ⟨ao, sn, sc, rfl⟩ : ∃ ao sn sc, s = .slice ao sn sc := by rcases hTR with ⟨rfl, _⟩ | ⟨g, cap, ar, rfl, _⟩ <;> exact ⟨_, _, _, rfl⟩
        have r0 := blk_cell hbk 0; have r1 := blk_cell hbk 1; have zr := blk_frozen hbk
        simp only [List.getElem?_toArray, List.getElem?_cons_zero, List.getElem?_cons_succ] at r0 r1
        refine wpOp_step rfl (fun K hK => ?_)
        go_simp
        have hb2 := blk_set (blk_set hbk 0 (.slice ao sn sc)) 1 (.int .i64 T)
        have hT2 : Bt [k] w' ((w'.setCell ⟨k, 0, none⟩ (.slice ao sn sc)).setCell ⟨k, 1, none⟩ (.int .i64 T)) := ((Bt.refl [k] w').setCell (p := ⟨k, 0, none⟩) (by simp) _).setCell (p := ⟨k, 1, none⟩) (by simp) _
        have hRD : RD wb.heap.size wb ((w'.setCell ⟨k, 0, none⟩ (.slice ao sn sc)).setCell ⟨k, 1, none⟩ (.int .i64 T)) L T (.pointer (some ⟨k, 0, none⟩)) := by
          refine ⟨k, .slice ao sn sc, rfl, hk, ⟨?_, ?_⟩, TRow.bt hT2 (by simpa using hap) hTR, hap, hbw.trans (hT2.below hbw.size (by simpa using hk))⟩
          · rw [blk_cell hb2]; simp
          · rw [blk_cell hb2]; simp
        exact hK _ _ ⟨true, true, true, true, true, true, true, true, true, x0, x1, x2, x3, x4, x5, .agg #[.slice ao sn sc, .int .i64 T], .pointer (some ⟨k, 0, none⟩), rfl, by kernel_rfl, nofun, fun _ => ⟨hRD, rfl, rfl, rfl, rfl, rfl, rfl, rfl, rfl⟩⟩
    · rintro listed a' w' ⟨b0, b1, b2, b3, b4, b5, b6, b7, b8, x0, x1, x2, x3, x4, x5, x6, x7, rfl, rfl, hI, hD⟩ hrd
      have e0 : b0 = true := by simpa using ready_next hrd 0 rfl (by simp)
      have e1 : b1 = true := by simpa using ready_next hrd 1 rfl (by simp [e0])
      have e2 : b2 = true := by simpa using ready_next hrd 2 rfl (by simp)
      have e3 : b3 = true := by simpa using ready_next hrd 3 rfl (by simp [e2, e1])
      have e4 : b4 = true := by simpa using ready_next hrd 4 rfl (by simp)
      have e5 : b5 = true := by simpa using ready_next hrd 5 rfl (by simp [e4, e3])
      have e6 : b6 = true := by simpa using ready_next hrd 6 rfl (by simp [e1, e3, e5])
      have e7 : b7 = true := by simpa using ready_next hrd 7 rfl (by simp)
      have e8 : b8 = true := by simpa using ready_next hrd 8 rfl (by simp [e0, e1, e2, e3, e4, e5, e6, e7])
      have hd := (hD e8).1
      clear hI hD hrd e0 e1 e2 e3 e4 e5 e6 e7 e8
      go_wp2_with fail
      go_simp
      go_meet
      exact hd
  case rest =>
    obtain ⟨k8, s8, rfl, hk8, hT8, hR8, ha8, hB8⟩ := hcut.out
    replace hb := hb.trans (hB8.mono hb.size)
    have hA2 := HA.out.later hB8
    have hc8 := World.block_lt_of_cell? _ _ hT8.1
    have hd8 := fun x hx => (hR8.ge x hx).2
    have HT8 : Hid (TBox _ k8 s8 T) := hT8
    have HR8 : Hid (TRow _ wb.heap.size s8 L) := hR8
    have HK8 : Hid (wb.heap.size ≤ k8) := hk8
    have HC8 : Hid (k8 < Array.size (World.heap _)) := hc8
    have HD8 : Hid (∀ x ∈ s8.ownBlock.toList, x < Array.size (World.heap _)) := hd8
    have HA2 : Hid (Ahead _ w.heap.size sv tu q v) := hA2
    obtain ⟨t0, t1, _, _⟩ := hA2
    clear hT8 hR8 hk8 ha8 hB8 hcut hc8 hd8 HA
    go_wp2_with fail
    refine (tot_arg sv ps tu _ (TA.out.later hb) hlen).mono ?_
    rintro e w5 ⟨⟨gx, hgx, rfl, hRx⟩, hx⟩
    have hgx2 := Row.lt hRx
    have hs5 := hx.size
    have hy := hx.trans ((bw1 w5 (.cells #[.slice (some ⟨gx, 0, none⟩) ps.length ps.length, .int .i64 tu] 55)).mono hx.size)
    obtain ⟨hbx, x0, x1⟩ := boxt w5 (.slice (some ⟨gx, 0, none⟩) ps.length ps.length) (.int .i64 tu) 55
    have hsd : (w5.alloc (.cells #[.slice (some ⟨gx, 0, none⟩) ps.length ps.length, .int .i64 tu] 55)).heap.size = w5.heap.size + 1 := by simp
    obtain ⟨wd, hwd⟩ : ∃ wd, wd = w5.alloc (.cells #[.slice (some ⟨gx, 0, none⟩) ps.length ps.length, .int .i64 tu] 55) := ⟨_, rfl⟩
    have HRx : Hid (Row wd gx ps.length ps) := by rw [hwd]; exact hRx.later hbx
    rw [← hwd] at x0 x1 hy hsd
    have HX : Hid (TBox wd w5.heap.size (.slice (some ⟨gx, 0, none⟩) ps.length ps.length) tu) := ⟨x0, x1⟩
    have HA3 : Hid (Ahead wd w.heap.size sv tu q v) := HA2.out.later hy
    have HT8d : Hid (TBox wd k8 s8 T) := HT8.out.later hy
    have HR8d : Hid (TRow wd wb.heap.size s8 L) := HR8.out.later hy
    replace hb := hb.trans (hy.mono hb.size)
    have HN : Hid (_ ≤ gx ∧ gx < w5.heap.size ∧ wd.heap.size = w5.heap.size + 1) := ⟨hgx, hgx2, hsd⟩
    clear hx hRx hgx hgx2 hs5 hbx hy hsd HT8 HR8 HA2 t0 t1 x0 x1
    go_upto_region 13 with fail
    rw [← hwd]; clear hwd
    go_cut [10] from 39 to 44 (fun s10 wx => Hid (RD wd.heap.size wd wx L T s10))
    case first =>
      refine wp_region_inv (by kernel_rfl) (fun base listed a' w' => ∃ b1 b2 b3 b4 b5 b6 b7 b8 x1 x2 x3 x4 x5 x6 x7, listed = #[b1, b2, b3, b4, b5, b6, b7, b8] ∧ a' = (((((((base.put (some 39) x1).put (some 40) x2).put (some 41) x3).put (some 42) x4).put (some 43) x5).put (some 44) x6).put (some 10) x7) ∧ (b8 = false → RI wd.heap.size wd w' sv tu ps q v L T false b1 b2 b3 b4 b5 b6 b7 undef x1 x2 x3 x4 x5 x6 x7) ∧ (b8 = true → RD wd.heap.size wd w' L T x7 ∧ b1 = true ∧ b2 = true ∧ b3 = true ∧ b4 = true ∧ b5 = true ∧ b6 = true ∧ b7 = true)) ?_ ?_ ?_
      · exact ⟨false, false, false, false, false, false, false, false, undef, undef, undef, undef, undef, undef, undef, rfl, by kernel_rfl, fun _ => ⟨(Below.refl _ _).drew, nofun, nofun, nofun, nofun, nofun, nofun, nofun, nofun, nofun⟩, nofun⟩
      · rintro i listed a' w' ⟨b1, b2, b3, b4, b5, b6, b7, b8, x1, x2, x3, x4, x5, x6, x7, rfl, rfl, hI, hD⟩ hr
        have hi := ready_lt hr
        have hun := (mem_ready.1 hr).1
        simp only [List.size_toArray, List.length_cons, List.length_nil, Nat.zero_add, Nat.reduceAdd] at hi
        have hi' : i = 0 ∨ i = 1 ∨ i = 2 ∨ i = 3 ∨ i = 4 ∨ i = 5 ∨ i = 6 ∨ i = 7 := by omega
        clear hi
        rcases hi' with rfl | rfl | rfl | rfl | rfl | rfl | rfl | rfl
        · have hbi : b1 = false := by simpa using hun
          have hb8 : b8 = false := by
            cases b8 with
            | false => rfl
            | true =>
              obtain ⟨_, e1, e2, e3, e4, e5, e6, e7⟩ := hD rfl
              rw [e1] at hbi; cases hbi
          subst hbi hb8 
          replace hI := hI rfl
          clear hD hr hun
          obtain ⟨c0, c1⟩ := HX.out.later hI.hb
          have hR := HRx.out.later hI.hb
          refine wpOp_step rfl (fun K hK => ?_)
          go_simp
          refine hK _ _ ⟨true, b2, b3, b4, b5, b6, b7, false, (.agg #[.slice (some ⟨gx, 0, none⟩) ps.length ps.length, .int .i64 tu]), x2, x3, x4, x5, x6, x7, rfl, by kernel_rfl, fun _ => { hI with h1 := fun _ => ⟨gx, rfl, hR⟩ }, nofun⟩
        · have hbi : b2 = false := by simpa using hun
          have hb8 : b8 = false := by
            cases b8 with
            | false => rfl
            | true =>
              obtain ⟨_, e1, e2, e3, e4, e5, e6, e7⟩ := hD rfl
              rw [e2] at hbi; cases hbi
          subst hbi hb8 
          replace hI := hI rfl
          clear hD hr hun
          obtain ⟨_, _, ⟨k0, k1, k2, k3, k4⟩, _⟩ := HA3.out.later hI.hb
          refine wpOp_step rfl (fun K hK => ?_)
          go_simp
          refine hK _ _ ⟨b1, true, b3, b4, b5, b6, b7, false, x1, q.v, x3, x4, x5, x6, x7, rfl, by kernel_rfl, fun _ => { hI with h2 := fun _ => rfl }, nofun⟩
        · have hbi : b3 = false := by simpa using hun
          have hb8 : b8 = false := by
            cases b8 with
            | false => rfl
            | true =>
              obtain ⟨_, e1, e2, e3, e4, e5, e6, e7⟩ := hD rfl
              rw [e3] at hbi; cases hbi
          have e2 : b2 = true := by simpa using ready_dep hr rfl ⟨1, .data⟩ (by simp) rfl
          subst hbi hb8 e2
          replace hI := hI rfl
          clear hD hr hun
          obtain rfl := hI.h2 rfl
          refine wpOp_step rfl (fun K hK => ?_)
          go_simp
          refine (to_any _ _ _ _ _ _).mono ?_
          rintro e w2 ⟨rfl, hx⟩
          have hI2 := hI.later hx
          refine hK _ _ ⟨b1, true, true, b4, b5, b6, b7, false, x1, q.v, q.v, x4, x5, x6, x7, rfl, by kernel_rfl, fun _ => { hI2 with h3 := fun _ => rfl }, nofun⟩
        · have hbi : b4 = false := by simpa using hun
          have hb8 : b8 = false := by
            cases b8 with
            | false => rfl
            | true =>
              obtain ⟨_, e1, e2, e3, e4, e5, e6, e7⟩ := hD rfl
              rw [e4] at hbi; cases hbi
          subst hbi hb8 
          replace hI := hI rfl
          clear hD hr hun
          obtain ⟨_, _, _, ⟨k0, k1, k2, k3, k4⟩⟩ := HA3.out.later hI.hb
          refine wpOp_step rfl (fun K hK => ?_)
          go_simp
          refine hK _ _ ⟨b1, b2, b3, true, b5, b6, b7, false, x1, x2, x3, v.v, x5, x6, x7, rfl, by kernel_rfl, fun _ => { hI with h4 := fun _ => rfl }, nofun⟩
        · have hbi : b5 = false := by simpa using hun
          have hb8 : b8 = false := by
            cases b8 with
            | false => rfl
            | true =>
              obtain ⟨_, e1, e2, e3, e4, e5, e6, e7⟩ := hD rfl
              rw [e5] at hbi; cases hbi
          have e4 : b4 = true := by simpa using ready_dep hr rfl ⟨3, .data⟩ (by simp) rfl
          subst hbi hb8 e4
          replace hI := hI rfl
          clear hD hr hun
          obtain rfl := hI.h4 rfl
          refine wpOp_step rfl (fun K hK => ?_)
          go_simp
          refine (to_any _ _ _ _ _ _).mono ?_
          rintro e w2 ⟨rfl, hx⟩
          have hI2 := hI.later hx
          refine hK _ _ ⟨b1, b2, b3, true, true, b6, b7, false, x1, x2, x3, v.v, v.v, x6, x7, rfl, by kernel_rfl, fun _ => { hI2 with h5 := fun _ => rfl }, nofun⟩
        · have hbi : b6 = false := by simpa using hun
          have hb8 : b8 = false := by
            cases b8 with
            | false => rfl
            | true =>
              obtain ⟨_, e1, e2, e3, e4, e5, e6, e7⟩ := hD rfl
              rw [e6] at hbi; cases hbi
          have e1 : b1 = true := by simpa using ready_dep hr rfl ⟨0, .data⟩ (by simp) rfl
          have e3 : b3 = true := by simpa using ready_dep hr rfl ⟨2, .data⟩ (by simp) rfl
          have e5 : b5 = true := by simpa using ready_dep hr rfl ⟨4, .data⟩ (by simp) rfl
          subst hbi hb8 e1 e3 e5
          replace hI := hI rfl
          clear hD hr hun
          obtain ⟨g, rfl, hR⟩ := hI.h1 rfl
          obtain rfl := hI.h3 rfl
          obtain rfl := hI.h5 rfl
          refine wpOp_step rfl (fun K hK => ?_)
          go_simp
          refine (iput_any g 0 ps.length ps.length ps tu q v _ rfl (hR.at rfl) hlen HO.out HQ.out).mono ?_
          rintro e w2 ⟨s, rfl, hTR, hx⟩
          rw [← HL.out.1] at hTR
          rw [← HL.out.2]
          have hI2 := hI.later hx
          have hsz := hI.hb.size
          have h67 : b7 = true → R67 (.agg #[s, .int .i64 T]) x7 := fun e s' t' k hs hk hm => by
            obtain ⟨k', hk', _, u0, u1, t, hbk⟩ := hI.h7 e
            rw [hk] at hk'
            cases hk'; cases hs
            have h1 := (Array.getElem?_eq_some_iff.1 hbk).1
            have h2 := (hTR.ge k hm).1
            omega
          refine hK _ _ ⟨true, b2, true, b4, true, true, b7, false, (.agg #[.slice (some ⟨g, 0, none⟩) ps.length ps.length, .int .i64 tu]), x2, q.v, x4, v.v, (.agg #[s, .int .i64 T]), x7, rfl, by kernel_rfl, fun _ => { hI2 with h6 := fun _ => ⟨s, rfl, hTR.mono hsz⟩, h67 := fun _ => h67 }, nofun⟩
        · have hbi : b7 = false := by simpa using hun
          have hb8 : b8 = false := by
            cases b8 with
            | false => rfl
            | true =>
              obtain ⟨_, e1, e2, e3, e4, e5, e6, e7⟩ := hD rfl
              rw [e7] at hbi; cases hbi
          subst hbi hb8 
          replace hI := hI rfl
          clear hD hr hun
          refine wpOp_step rfl (fun K hK => ?_)
          go_simp
          have hI2 := hI.later (bw1 w' (.cells #[.slice none 0 0, .int .i64 0] 55))
          have hsz := hI.hb.size
          have h67 : b6 = true → R67 x6 (.pointer (some ⟨w'.heap.size, 0, none⟩)) := fun e s' t' k hs hk hm => by
            obtain ⟨s, hs', hTR⟩ := hI.h6 e
            rw [hs] at hs'
            cases hs'; cases hk
            have h2 := (hTR.ge _ hm).2
            omega
          refine hK _ _ ⟨b1, b2, b3, b4, b5, b6, true, false, x1, x2, x3, x4, x5, x6, (.pointer (some ⟨w'.heap.size, 0, none⟩)), rfl, by kernel_rfl, fun _ => { hI2 with h7 := fun _ => ⟨w'.heap.size, rfl, hsz, _, _, _, by show (w'.heap.push _)[w'.heap.size]? = _; rw [Array.getElem?_push, if_pos rfl]⟩, h67 := fun e _ => h67 e }, nofun⟩
        · have hb8 : b8 = false := by simpa using hun
          have e1 : b1 = true := by simpa using ready_dep hr rfl ⟨0, .phase⟩ (by simp) rfl
          have e2 : b2 = true := by simpa using ready_dep hr rfl ⟨1, .phase⟩ (by simp) rfl
          have e3 : b3 = true := by simpa using ready_dep hr rfl ⟨2, .phase⟩ (by simp) rfl
          have e4 : b4 = true := by simpa using ready_dep hr rfl ⟨3, .phase⟩ (by simp) rfl
          have e5 : b5 = true := by simpa using ready_dep hr rfl ⟨4, .phase⟩ (by simp) rfl
          have e6 : b6 = true := by simpa using ready_dep hr rfl ⟨5, .phase⟩ (by simp) rfl
          have e7 : b7 = true := by simpa using ready_dep hr rfl ⟨6, .phase⟩ (by simp) rfl
          subst hb8 e1 e2 e3 e4 e5 e6 e7
          replace hI := hI rfl
          clear hD hr hun
          obtain ⟨s, rfl, hTR⟩ := hI.h6 rfl
          obtain ⟨k, rfl, hk, u0, u1, t, hbk⟩ := hI.h7 rfl
          have hap := hI.h67 rfl rfl s _ k rfl rfl
          have hbw := hI.hb
          obtain ⟨ao, sn, sc, rfl⟩ : ∃ ao sn sc, s = .slice ao sn sc := by rcases hTR with ⟨rfl, _⟩ | ⟨g, cap, ar, rfl, _⟩ <;> exact ⟨_, _, _, rfl⟩
          have r0 := blk_cell hbk 0; have r1 := blk_cell hbk 1; have zr := blk_frozen hbk
          simp only [List.getElem?_toArray, List.getElem?_cons_zero, List.getElem?_cons_succ] at r0 r1
          refine wpOp_step rfl (fun K hK => ?_)
          go_simp
          have hb2 := blk_set (blk_set hbk 0 (.slice ao sn sc)) 1 (.int .i64 T)
          have hT2 : Bt [k] w' ((w'.setCell ⟨k, 0, none⟩ (.slice ao sn sc)).setCell ⟨k, 1, none⟩ (.int .i64 T)) := ((Bt.refl [k] w').setCell (p := ⟨k, 0, none⟩) (by simp) _).setCell (p := ⟨k, 1, none⟩) (by simp) _
          have hRD : RD wd.heap.size wd ((w'.setCell ⟨k, 0, none⟩ (.slice ao sn sc)).setCell ⟨k, 1, none⟩ (.int .i64 T)) L T (.pointer (some ⟨k, 0, none⟩)) := by
            refine ⟨k, .slice ao sn sc, rfl, hk, ⟨?_, ?_⟩, TRow.bt hT2 (by simpa using hap) hTR, hap, hbw.trans (hT2.below hbw.size (by simpa using hk))⟩
            · rw [blk_cell hb2]; simp
            · rw [blk_cell hb2]; simp
          exact hK _ _ ⟨true, true, true, true, true, true, true, true, x1, x2, x3, x4, x5, .agg #[.slice ao sn sc, .int .i64 T], .pointer (some ⟨k, 0, none⟩), rfl, by kernel_rfl, nofun, fun _ => ⟨hRD, rfl, rfl, rfl, rfl, rfl, rfl, rfl⟩⟩
      · rintro listed a' w' ⟨b1, b2, b3, b4, b5, b6, b7, b8, x1, x2, x3, x4, x5, x6, x7, rfl, rfl, hI, hD⟩ hrd
        have e1 : b1 = true := by simpa using ready_next hrd 0 rfl (by simp)
        have e2 : b2 = true := by simpa using ready_next hrd 1 rfl (by simp)
        have e3 : b3 = true := by simpa using ready_next hrd 2 rfl (by simp [e2])
        have e4 : b4 = true := by simpa using ready_next hrd 3 rfl (by simp)
        have e5 : b5 = true := by simpa using ready_next hrd 4 rfl (by simp [e4, e3])
        have e6 : b6 = true := by simpa using ready_next hrd 5 rfl (by simp [e1, e3, e5])
        have e7 : b7 = true := by simpa using ready_next hrd 6 rfl (by simp)
        have e8 : b8 = true := by simpa using ready_next hrd 7 rfl (by simp [e1, e2, e3, e4, e5, e6, e7])
        have hd := (hD e8).1
        clear hI hD hrd e1 e2 e3 e4 e5 e6 e7 e8
        go_wp2_with fail
        go_simp
        go_meet
        exact hd
    case rest =>
      obtain ⟨k10, s10, rfl, hk10, hT10, hR10, ha10, hB10⟩ := hcut.out
      have hB := hb.trans (hB10.mono hb.size)
      have OD : Hid (Od w.heap.size wb.heap.size k8 s8 _ gx w5.heap.size wd.heap.size k10 s10) := ⟨HZA.out, HK8.out, HC8.out, HD8.out, HN.out.1, HN.out.2.1, by have := HN.out.2.2; omega, hk10, ha10⟩
      have ST : Hid (St w _ sv tu q v wb.heap.size k8 s8 L T _ gx w5.heap.size ps.length ps wd.heap.size k10 s10 L) := ⟨hB, HA3.out.later hB10, HT8d.out.later hB10, HR8d.out.later hB10, HX.out.later hB10, trow_of HN.out.1 (HRx.out.later hB10), hT10, hR10⟩
      have HLl : Hid (L.length ≤ 1048576) := by rw [HL.out.1]; exact ansL_le
      clear hT10 hR10 hk10 ha10 hB10 hB hb hcut HA3 HT8d HR8d HX HRx HN HK8 HC8 HD8 HZA
      obtain ⟨c0, c1⟩ := ST.out.t10
      obtain ⟨d0, d1⟩ := ST.out.t8
      go_wp2_with fail
      refine (eqt_arg s10 s8 T L _ ST.out.r10.arg ST.out.r8.arg HLl.out).mono ?_
      rintro e w14 ⟨rfl, hx⟩
      replace ST : Hid (St w w14 sv tu q v wb.heap.size k8 s8 L T _ gx w5.heap.size ps.length ps wd.heap.size k10 s10 L) := ST.out.later hx
      clear hx c0 c1 d0 d1
      obtain ⟨c0, c1⟩ := ST.out.tx
      obtain ⟨t0, t1, _, _⟩ := ST.out.hA
      obtain ⟨Nx, hNx⟩ : ∃ Nx, Hid (St w w14 sv tu q v wb.heap.size k8 s8 L T Nx gx w5.heap.size ps.length ps wd.heap.size k10 s10 L) ∧ Hid (Od w.heap.size wb.heap.size k8 s8 Nx gx w5.heap.size wd.heap.size k10 s10) := ⟨_, ST, OD⟩
      clear ST OD
      have ST := hNx.1
      have OD := hNx.2
      clear hNx
      go_upto_region 16 with fail
      go_cut [53] from 49 to 52 (fun s53 wx => s53 = .bool false ∧ Hid (St w wx sv tu q v wb.heap.size k8 s8 L T Nx gx w5.heap.size ps.length ps wd.heap.size k10 s10 L))
      case first =>
        go_region_with (first | (go_at_call 37; refine (tot_arg sv ps tu _ (TA.out.later (ST.out.hb.trans ((Below.refl _ _).drew))) hlen).mono ?_; rintro e w15 ⟨⟨g3, hg3, rfl, hR3⟩, hx⟩; replace hx := und1 hx; have HR3 : Hid (TRow w15 0 _ ps) := trow_of (Nat.zero_le _) hR3; replace ST : Hid (St w w15 sv tu q v wb.heap.size k8 s8 L T Nx gx w5.heap.size ps.length ps wd.heap.size k10 s10 L) := ST.out.later hx; replace c0 := cell_later hx c0; replace c1 := cell_later hx c1; clear hx hR3) | (go_at_call 39; refine (eqt_arg _ _ tu ps _ ST.out.rx.arg HR3.out.arg hlen).mono ?_; rintro e w16 ⟨rfl, hx⟩; replace ST : Hid (St w w16 sv tu q v wb.heap.size k8 s8 L T Nx gx w5.heap.size ps.length ps wd.heap.size k10 s10 L) := ST.out.later hx; clear hx c0 c1 t0 t1))
        all_goals
          go_wp2_with fail
          go_meet
          exact ⟨rfl, ST.out⟩
      case rest =>
        obtain ⟨rfl, ST⟩ := hcut
        clear c0 c1 t0 t1
        obtain ⟨c0, c1⟩ := ST.out.tx
        go_wp2_with fail
        refine (mark_tab _ _ tu ps _ ST.out.rx hlen).mono ?_
        obtain ⟨K, hK⟩ : ∃ K : Int, K = ((1 + 11 * ps.length : Nat) : Int) := ⟨_, rfl⟩
        have hK0 : decide (K < 0) = false := by simp; omega
        rw [← hK]
        clear hK
        rintro e w19 ⟨rfl, hR, hx⟩
        replace ST : Hid (St w w19 sv tu q v wb.heap.size k8 s8 L T Nx gx w5.heap.size ps.length (mks 1 ps.length) wd.heap.size k10 s10 L) := ST.out.markx OD.out hx hR
        clear hx hR c0 c1
        obtain ⟨c0, c1⟩ := ST.out.t10
        obtain ⟨d0, d1⟩ := ST.out.t8
        go_wp2_with fail
        refine (eqt_arg s10 s8 T L _ ST.out.r10.arg ST.out.r8.arg HLl.out).mono ?_
        rintro e w20 ⟨rfl, hx⟩
        replace ST : Hid (St w w20 sv tu q v wb.heap.size k8 s8 L T Nx gx w5.heap.size ps.length (mks 1 ps.length) wd.heap.size k10 s10 L) := ST.out.later hx
        clear hx c0 c1 d0 d1
        obtain ⟨c0, c1⟩ := ST.out.t10
        go_wp2_with fail
        refine (mark_tab _ _ T L _ ST.out.r10 HLl.out).mono ?_
        obtain ⟨M, hM⟩ : ∃ M : Int, M = ((1 + 11 * L.length : Nat) : Int) := ⟨_, rfl⟩
        have hM0 : decide (M < 0) = false := by simp; omega
        have HM : Hid (M = ((1 + 11 * L.length : Nat) : Int)) := hM
        rw [← hM]
        clear hM
        rintro e w23 ⟨rfl, hR, hx⟩
        replace ST : Hid (St w w23 sv tu q v wb.heap.size k8 s8 L T Nx gx w5.heap.size ps.length (mks 1 ps.length) wd.heap.size k10 s10 (mks 1 L.length)) := ST.out.mark10 OD.out hx hR
        clear hx hR c0 c1
        obtain ⟨c0, c1⟩ := ST.out.t10
        go_wp2_with fail
        refine (held_tab s10 _ L.length T _ ST.out.r10 HLl.out).mono ?_
        rw [← HM.out]
        rintro e wm ⟨rfl, hx⟩
        replace ST : Hid (St w wm sv tu q v wb.heap.size k8 s8 L T Nx gx w5.heap.size ps.length (mks 1 ps.length) wd.heap.size k10 s10 (mks 1 L.length)) := ST.out.later hx
        clear hx c0 c1
        have HA4 : Hid (Ahead wm w.heap.size sv tu q v) := ST.out.hA
        have hb := ST.out.hb
        go_upto_region 30 with fail
        go_cut [14] from 76 to 82 (fun s14 wx => Hid (RD wm.heap.size wm wx L T s14))
        case first =>
          refine wp_region_inv (by kernel_rfl) (fun base listed a' w' => ∃ b0 b1 b2 b3 b4 b5 b6 b7 b8 x0 x1 x2 x3 x4 x5 x6 x7, listed = #[b0, b1, b2, b3, b4, b5, b6, b7, b8] ∧ a' = ((((((((base.put (some 76) x0).put (some 77) x1).put (some 78) x2).put (some 79) x3).put (some 80) x4).put (some 81) x5).put (some 82) x6).put (some 14) x7) ∧ (b8 = false → RI wm.heap.size wm w' sv tu ps q v L T b0 b1 b2 b3 b4 b5 b6 b7 x0 x1 x2 x3 x4 x5 x6 x7) ∧ (b8 = true → RD wm.heap.size wm w' L T x7 ∧ b0 = true ∧ b1 = true ∧ b2 = true ∧ b3 = true ∧ b4 = true ∧ b5 = true ∧ b6 = true ∧ b7 = true)) ?_ ?_ ?_
          · exact ⟨false, false, false, false, false, false, false, false, false, undef, undef, undef, undef, undef, undef, undef, undef, rfl, by kernel_rfl, fun _ => ⟨(Below.refl _ _).drew, nofun, nofun, nofun, nofun, nofun, nofun, nofun, nofun, nofun⟩, nofun⟩
          · rintro i listed a' w' ⟨b0, b1, b2, b3, b4, b5, b6, b7, b8, x0, x1, x2, x3, x4, x5, x6, x7, rfl, rfl, hI, hD⟩ hr
            have hi := ready_lt hr
            have hun := (mem_ready.1 hr).1
            simp only [List.size_toArray, List.length_cons, List.length_nil, Nat.zero_add, Nat.reduceAdd] at hi
            have hi' : i = 0 ∨ i = 1 ∨ i = 2 ∨ i = 3 ∨ i = 4 ∨ i = 5 ∨ i = 6 ∨ i = 7 ∨ i = 8 := by omega
            clear hi
            rcases hi' with rfl | rfl | rfl | rfl | rfl | rfl | rfl | rfl | rfl
            · have hbi : b0 = false := by simpa using hun
              have hb8 : b8 = false := by
                cases b8 with
                | false => rfl
                | true =>
                  obtain ⟨_, e0, e1, e2, e3, e4, e5, e6, e7⟩ := hD rfl
                  rw [e0] at hbi; cases hbi
              subst hbi hb8 
              replace hI := hI rfl
              clear hD hr hun
              obtain ⟨t0, t1, _, _⟩ := HA4.out.later hI.hb
              refine wpOp_step rfl (fun K hK => ?_)
              go_simp
              refine hK _ _ ⟨true, b1, b2, b3, b4, b5, b6, b7, false, .agg #[sv, .int .i64 tu], x1, x2, x3, x4, x5, x6, x7, rfl, by kernel_rfl, fun _ => { hI with h0 := fun _ => rfl }, nofun⟩
            · have hbi : b1 = false := by simpa using hun
              have hb8 : b8 = false := by
                cases b8 with
                | false => rfl
                | true =>
                  obtain ⟨_, e0, e1, e2, e3, e4, e5, e6, e7⟩ := hD rfl
                  rw [e1] at hbi; cases hbi
              have e0 : b0 = true := by simpa using ready_dep hr rfl ⟨0, .data⟩ (by simp) rfl
              subst hbi hb8 e0
              replace hI := hI rfl
              clear hD hr hun
              obtain rfl := hI.h0 rfl
              refine wpOp_step rfl (fun K hK => ?_)
              go_simp
              refine (tot_arg sv ps tu _ (TA.out.later (hb.trans (hI.hb.mono hb.size))) hlen).mono ?_
              rintro e w2 ⟨⟨g, hg, rfl, hR⟩, hx⟩
              have hI2 := hI.later hx
              refine hK _ _ ⟨true, true, b2, b3, b4, b5, b6, b7, false, .agg #[sv, .int .i64 tu], (.agg #[.slice (some ⟨g, 0, none⟩) ps.length ps.length, .int .i64 tu]), x2, x3, x4, x5, x6, x7, rfl, by kernel_rfl, fun _ => { hI2 with h1 := fun _ => ⟨g, rfl, hR⟩ }, nofun⟩
            · have hbi : b2 = false := by simpa using hun
              have hb8 : b8 = false := by
                cases b8 with
                | false => rfl
                | true =>
                  obtain ⟨_, e0, e1, e2, e3, e4, e5, e6, e7⟩ := hD rfl
                  rw [e2] at hbi; cases hbi
              subst hbi hb8 
              replace hI := hI rfl
              clear hD hr hun
              obtain ⟨_, _, ⟨k0, k1, k2, k3, k4⟩, _⟩ := HA4.out.later hI.hb
              refine wpOp_step rfl (fun K hK => ?_)
              go_simp
              refine hK _ _ ⟨b0, b1, true, b3, b4, b5, b6, b7, false, x0, x1, q.v, x3, x4, x5, x6, x7, rfl, by kernel_rfl, fun _ => { hI with h2 := fun _ => rfl }, nofun⟩
            · have hbi : b3 = false := by simpa using hun
              have hb8 : b8 = false := by
                cases b8 with
                | false => rfl
                | true =>
                  obtain ⟨_, e0, e1, e2, e3, e4, e5, e6, e7⟩ := hD rfl
                  rw [e3] at hbi; cases hbi
              have e2 : b2 = true := by simpa using ready_dep hr rfl ⟨2, .data⟩ (by simp) rfl
              subst hbi hb8 e2
              replace hI := hI rfl
              clear hD hr hun
              obtain rfl := hI.h2 rfl
              refine wpOp_step rfl (fun K hK => ?_)
              go_simp
              refine (to_any _ _ _ _ _ _).mono ?_
              rintro e w2 ⟨rfl, hx⟩
              have hI2 := hI.later hx
              refine hK _ _ ⟨b0, b1, true, true, b4, b5, b6, b7, false, x0, x1, q.v, q.v, x4, x5, x6, x7, rfl, by kernel_rfl, fun _ => { hI2 with h3 := fun _ => rfl }, nofun⟩
            · have hbi : b4 = false := by simpa using hun
              have hb8 : b8 = false := by
                cases b8 with
                | false => rfl
                | true =>
                  obtain ⟨_, e0, e1, e2, e3, e4, e5, e6, e7⟩ := hD rfl
                  rw [e4] at hbi; cases hbi
              subst hbi hb8 
              replace hI := hI rfl
              clear hD hr hun
              obtain ⟨_, _, _, ⟨k0, k1, k2, k3, k4⟩⟩ := HA4.out.later hI.hb
              refine wpOp_step rfl (fun K hK => ?_)
              go_simp
              refine hK _ _ ⟨b0, b1, b2, b3, true, b5, b6, b7, false, x0, x1, x2, x3, v.v, x5, x6, x7, rfl, by kernel_rfl, fun _ => { hI with h4 := fun _ => rfl }, nofun⟩
            · have hbi : b5 = false := by simpa using hun
              have hb8 : b8 = false := by
                cases b8 with
                | false => rfl
                | true =>
                  obtain ⟨_, e0, e1, e2, e3, e4, e5, e6, e7⟩ := hD rfl
                  rw [e5] at hbi; cases hbi
              have e4 : b4 = true := by simpa using ready_dep hr rfl ⟨4, .data⟩ (by simp) rfl
              subst hbi hb8 e4
              replace hI := hI rfl
              clear hD hr hun
              obtain rfl := hI.h4 rfl
              refine wpOp_step rfl (fun K hK => ?_)
              go_simp
              refine (to_any _ _ _ _ _ _).mono ?_
              rintro e w2 ⟨rfl, hx⟩
              have hI2 := hI.later hx
              refine hK _ _ ⟨b0, b1, b2, b3, true, true, b6, b7, false, x0, x1, x2, x3, v.v, v.v, x6, x7, rfl, by kernel_rfl, fun _ => { hI2 with h5 := fun _ => rfl }, nofun⟩
            · have hbi : b6 = false := by simpa using hun
              have hb8 : b8 = false := by
                cases b8 with
                | false => rfl
                | true =>
                  obtain ⟨_, e0, e1, e2, e3, e4, e5, e6, e7⟩ := hD rfl
                  rw [e6] at hbi; cases hbi
              have e1 : b1 = true := by simpa using ready_dep hr rfl ⟨1, .data⟩ (by simp) rfl
              have e3 : b3 = true := by simpa using ready_dep hr rfl ⟨3, .data⟩ (by simp) rfl
              have e5 : b5 = true := by simpa using ready_dep hr rfl ⟨5, .data⟩ (by simp) rfl
              subst hbi hb8 e1 e3 e5
              replace hI := hI rfl
              clear hD hr hun
              obtain ⟨g, rfl, hR⟩ := hI.h1 rfl
              obtain rfl := hI.h3 rfl
              obtain rfl := hI.h5 rfl
              refine wpOp_step rfl (fun K hK => ?_)
              go_simp
              refine (iput_any g 0 ps.length ps.length ps tu q v _ rfl (hR.at rfl) hlen HO.out HQ.out).mono ?_
              rintro e w2 ⟨s, rfl, hTR, hx⟩
              rw [← HL.out.1] at hTR
              rw [← HL.out.2]
              have hI2 := hI.later hx
              have hsz := hI.hb.size
              have h67 : b7 = true → R67 (.agg #[s, .int .i64 T]) x7 := fun e s' t' k hs hk hm => by
                obtain ⟨k', hk', _, u0, u1, t, hbk⟩ := hI.h7 e
                rw [hk] at hk'
                cases hk'; cases hs
                have h1 := (Array.getElem?_eq_some_iff.1 hbk).1
                have h2 := (hTR.ge k hm).1
                omega
              refine hK _ _ ⟨b0, true, b2, true, b4, true, true, b7, false, x0, (.agg #[.slice (some ⟨g, 0, none⟩) ps.length ps.length, .int .i64 tu]), x2, q.v, x4, v.v, (.agg #[s, .int .i64 T]), x7, rfl, by kernel_rfl, fun _ => { hI2 with h6 := fun _ => ⟨s, rfl, hTR.mono hsz⟩, h67 := fun _ => h67 }, nofun⟩
            · have hbi : b7 = false := by simpa using hun
              have hb8 : b8 = false := by
                cases b8 with
                | false => rfl
                | true =>
                  obtain ⟨_, e0, e1, e2, e3, e4, e5, e6, e7⟩ := hD rfl
                  rw [e7] at hbi; cases hbi
              subst hbi hb8 
              replace hI := hI rfl
              clear hD hr hun
              refine wpOp_step rfl (fun K hK => ?_)
              go_simp
              have hI2 := hI.later (bw1 w' (.cells #[.slice none 0 0, .int .i64 0] 55))
              have hsz := hI.hb.size
              have h67 : b6 = true → R67 x6 (.pointer (some ⟨w'.heap.size, 0, none⟩)) := fun e s' t' k hs hk hm => by
                obtain ⟨s, hs', hTR⟩ := hI.h6 e
                rw [hs] at hs'
                cases hs'; cases hk
                have h2 := (hTR.ge _ hm).2
                omega
              refine hK _ _ ⟨b0, b1, b2, b3, b4, b5, b6, true, false, x0, x1, x2, x3, x4, x5, x6, (.pointer (some ⟨w'.heap.size, 0, none⟩)), rfl, by kernel_rfl, fun _ => { hI2 with h7 := fun _ => ⟨w'.heap.size, rfl, hsz, _, _, _, by show (w'.heap.push _)[w'.heap.size]? = _; rw [Array.getElem?_push, if_pos rfl]⟩, h67 := fun e _ => h67 e }, nofun⟩
            · have hb8 : b8 = false := by simpa using hun
              have e0 : b0 = true := by simpa using ready_dep hr rfl ⟨0, .phase⟩ (by simp) rfl
              have e1 : b1 = true := by simpa using ready_dep hr rfl ⟨1, .phase⟩ (by simp) rfl
              have e2 : b2 = true := by simpa using ready_dep hr rfl ⟨2, .phase⟩ (by simp) rfl
              have e3 : b3 = true := by simpa using ready_dep hr rfl ⟨3, .phase⟩ (by simp) rfl
              have e4 : b4 = true := by simpa using ready_dep hr rfl ⟨4, .phase⟩ (by simp) rfl
              have e5 : b5 = true := by simpa using ready_dep hr rfl ⟨5, .phase⟩ (by simp) rfl
              have e6 : b6 = true := by simpa using ready_dep hr rfl ⟨6, .phase⟩ (by simp) rfl
              have e7 : b7 = true := by simpa using ready_dep hr rfl ⟨7, .phase⟩ (by simp) rfl
              subst hb8 e0 e1 e2 e3 e4 e5 e6 e7
              replace hI := hI rfl
              clear hD hr hun
              obtain ⟨s, rfl, hTR⟩ := hI.h6 rfl
              obtain ⟨k, rfl, hk, u0, u1, t, hbk⟩ := hI.h7 rfl
              have hap := hI.h67 rfl rfl s _ k rfl rfl
              have hbw := hI.hb
              obtain ⟨ao, sn, sc, rfl⟩ : ∃ ao sn sc, s = .slice ao sn sc := by rcases hTR with ⟨rfl, _⟩ | ⟨g, cap, ar, rfl, _⟩ <;> exact ⟨_, _, _, rfl⟩
              have r0 := blk_cell hbk 0; have r1 := blk_cell hbk 1; have zr := blk_frozen hbk
              simp only [List.getElem?_toArray, List.getElem?_cons_zero, List.getElem?_cons_succ] at r0 r1
              refine wpOp_step rfl (fun K hK => ?_)
              go_simp
              have hb2 := blk_set (blk_set hbk 0 (.slice ao sn sc)) 1 (.int .i64 T)
              have hT2 : Bt [k] w' ((w'.setCell ⟨k, 0, none⟩ (.slice ao sn sc)).setCell ⟨k, 1, none⟩ (.int .i64 T)) := ((Bt.refl [k] w').setCell (p := ⟨k, 0, none⟩) (by simp) _).setCell (p := ⟨k, 1, none⟩) (by simp) _
              have hRD : RD wm.heap.size wm ((w'.setCell ⟨k, 0, none⟩ (.slice ao sn sc)).setCell ⟨k, 1, none⟩ (.int .i64 T)) L T (.pointer (some ⟨k, 0, none⟩)) := by
                refine ⟨k, .slice ao sn sc, rfl, hk, ⟨?_, ?_⟩, TRow.bt hT2 (by simpa using hap) hTR, hap, hbw.trans (hT2.below hbw.size (by simpa using hk))⟩
                · rw [blk_cell hb2]; simp
                · rw [blk_cell hb2]; simp
              exact hK _ _ ⟨true, true, true, true, true, true, true, true, true, x0, x1, x2, x3, x4, x5, .agg #[.slice ao sn sc, .int .i64 T], .pointer (some ⟨k, 0, none⟩), rfl, by kernel_rfl, nofun, fun _ => ⟨hRD, rfl, rfl, rfl, rfl, rfl, rfl, rfl, rfl⟩⟩
          · rintro listed a' w' ⟨b0, b1, b2, b3, b4, b5, b6, b7, b8, x0, x1, x2, x3, x4, x5, x6, x7, rfl, rfl, hI, hD⟩ hrd
            have e0 : b0 = true := by simpa using ready_next hrd 0 rfl (by simp)
            have e1 : b1 = true := by simpa using ready_next hrd 1 rfl (by simp [e0])
            have e2 : b2 = true := by simpa using ready_next hrd 2 rfl (by simp)
            have e3 : b3 = true := by simpa using ready_next hrd 3 rfl (by simp [e2, e1])
            have e4 : b4 = true := by simpa using ready_next hrd 4 rfl (by simp)
            have e5 : b5 = true := by simpa using ready_next hrd 5 rfl (by simp [e4, e3])
            have e6 : b6 = true := by simpa using ready_next hrd 6 rfl (by simp [e1, e3, e5])
            have e7 : b7 = true := by simpa using ready_next hrd 7 rfl (by simp)
            have e8 : b8 = true := by simpa using ready_next hrd 8 rfl (by simp [e0, e1, e2, e3, e4, e5, e6, e7])
            have hd := (hD e8).1
            clear hI hD hrd e0 e1 e2 e3 e4 e5 e6 e7 e8
            go_wp2_with fail
            go_simp
            go_meet
            exact hd
        case rest =>
          obtain ⟨k14, s14, rfl, _, ⟨c0, c1⟩, hR14, _, hB14⟩ := hcut.out
          have HR14 : Hid (TRow _ wm.heap.size s14 L) := hR14
          replace ST : Hid (St w _ sv tu q v wb.heap.size k8 s8 L T Nx gx w5.heap.size ps.length (mks 1 ps.length) wd.heap.size k10 s10 (mks 1 L.length)) := ST.out.later hB14
          clear hR14 hB14 hcut hb HA4
          obtain ⟨d0, d1⟩ := ST.out.t8
          go_wp2_with fail
          refine (eqt_arg s14 s8 T L _ HR14.out.arg ST.out.r8.arg HLl.out).mono ?_
          rintro e w31 ⟨rfl, hx⟩
          replace ST : Hid (St w w31 sv tu q v wb.heap.size k8 s8 L T Nx gx w5.heap.size ps.length (mks 1 ps.length) wd.heap.size k10 s10 (mks 1 L.length)) := ST.out.later hx
          clear hx c0 c1 d0 d1
          obtain ⟨c0, c1⟩ := ST.out.t10
          go_wp2_with fail
          refine (held_tab s10 _ L.length T _ ST.out.r10 HLl.out).mono ?_
          rw [← HM.out]
          rintro e w34 ⟨rfl, hx⟩
          replace ST : Hid (St w w34 sv tu q v wb.heap.size k8 s8 L T Nx gx w5.heap.size ps.length (mks 1 ps.length) wd.heap.size k10 s10 (mks 1 L.length)) := ST.out.later hx
          clear hx c0 c1
          go_wp2_with fail
          go_ret
          exact ⟨rfl, ST.out.hb⟩

theorem walk (sv : Value) (tu : Int) (ps : List PD) (k1 n1 : Int) (f1 : Nat) (s1 : ByteArray) (r1 k2 n2 : Int) (f2 : Nat) (s2 : ByteArray) (r2 : Int) (w : World) (ta : TArg w sv ps) (po : ∀ p ∈ ps, p.ok) (pl : ps.length ≤ maxLen) (wt : (Lit.int .i64 tu).wf = true) (hv1 : VW k1 n1 f1 s1 r1) (hv2 : VW k2 n2 f2 s2 r2) :
    Calls Try.prog 14 #[.agg #[sv, .int .i64 tu], VV k1 n1 f1 s1 r1, VV k2 n2 f2 s2 r2] w fun e w' => e = .returned (.bool true) ∧ Below w.heap.size w w' :=
  walkD sv tu ps ⟨k1, n1, f1, s1, r1⟩ ⟨k2, n2, f2, s2, r2⟩ w ta po pl ⟨flt_lt hv1.2.2.1, hv1.2.2.2.1⟩ ⟨flt_lt hv2.2.2.1, hv2.2.2.2.1⟩

/-! The row's step. -/
theorem own : ownKnob Try.prog.godebug = none := by kernel_rfl
theorem laidOut : laidOutB Try.prog = true := by kernel_rfl
set_option maxRecDepth 100000 in
theorem lifted (os : Os) (started : os.Started) (H : Type) (enc : TypeId × Value → H) :
    ReturnsInHanded {} Try.checked os 14 .any (Rows.fnExactPutSpec.pre6 enc Try.prog Try.f14 Rows.fnExactPutRow.domain false) (Rows.fnExactPutSpec.post enc Try.prog Try.f14 false true false false) := by
  refine returnsInHanded_of_change (C := Try.checked) own started (by kernel_rfl) Try.func14
    (ChangeSpec.witness6 (enc := enc) (C := Try.checked) false ⟨#[], #[.agg #[.slice none 0 0, .int .i64 0], VV 0 0 0 ByteArray.empty 0, VV 0 0 0 ByteArray.empty 0], []⟩ 8 (by kernel_rfl) (by kernel_rfl) (by kernel_rfl) (by kernel_rfl)) ?_
  intro W base args ds gs before hval0 hW hcnd _
  have hval : ∀ (j : Nat) t v, Try.f14.params[j]? = some t → args[j]? = some v → Value.okWide Try.prog W .any base t v := hval0
  have hW' := hW
  obtain ⟨p, q, hA0, hV, rfl, hfz, hnd⟩ := hW
  have hA : DataW.TrodAll enc Try.prog W 0 (fun _ => true) true Try.f14.params.toList args.toList ds p := hA0
  rw [Try.params14] at hA hval
  obtain ⟨v0, vs0, d0, ds0, p0, q0, hargs, rfl, rfl, h0, r0⟩ := trodAll_cons hA
  obtain ⟨v1, vs1, d1, ds1, p1, q1, rfl, rfl, rfl, h1, r1⟩ := trodAll_cons r0
  obtain ⟨v2, vs2, d2, ds2, p2, q2, rfl, rfl, rfl, h2, r2⟩ := trodAll_cons r1
  obtain ⟨rfl, rfl, rfl⟩ := trodAll_nil r2
  obtain rfl : args = #[v0, v1, v2] := by cases args; simp_all
  obtain ⟨rfl, rfl⟩ := trodVars_none hV
  have k0 := h0
  have lt0 : ∀ x ∈ p0, x.block < W.heap.size := by obtain ⟨m, hm⟩ := k0; exact DataW.trod_lt m _ _ _ hm
  obtain ⟨sv_0, tu_0, ps_0, rfl, ta0, po0, pl0, wt0⟩ := open_table (hval 0 50 v0 rfl rfl) h0
  clear h0
  have k1 := h1
  have lt1 : ∀ x ∈ p1, x.block < W.heap.size := by obtain ⟨m, hm⟩ := k1; exact DataW.trod_lt m _ _ _ hm
  obtain ⟨x0, x1, x2, x3, x4, y0, y1, y2, y3, y4, m, rfl, hd, hp, t0, t1, t2, t3, t4⟩ := open_agg5 Try.underlying24 (by kernel_rfl) (by kernel_rfl) (by kernel_rfl) (by kernel_rfl) (by kernel_rfl) (by kernel_rfl) (by kernel_rfl) (by kernel_rfl) (by kernel_rfl) (by kernel_rfl) (by kernel_rfl) (hval 1 24 v1 rfl rfl) h1
  obtain ⟨k_1, e0, _, wk1⟩ := DataW.trod_int Try.underlying3 t0
  obtain ⟨n_1, e1, _, wn1⟩ := DataW.trod_int Try.underlying2 t1
  obtain ⟨f_1, e2, _, wf1⟩ := trod_float Try.underlying22 t2
  obtain ⟨s_1, e3, _, ws1⟩ := DataW.trod_string Try.underlying9 t3
  obtain ⟨r_1, e4, _, wr1⟩ := DataW.trod_int Try.underlying3 t4
  simp only [List.cons.injEq, and_true] at e0 e1 e3 e4
  subst e0 e1 e2 e3 e4
  clear t0 t1 t2 t3 t4 hd hp h1
  have k2 := h2
  have lt2 : ∀ x ∈ p2, x.block < W.heap.size := by obtain ⟨m, hm⟩ := k2; exact DataW.trod_lt m _ _ _ hm
  obtain ⟨x0, x1, x2, x3, x4, y0, y1, y2, y3, y4, m, rfl, hd, hp, t0, t1, t2, t3, t4⟩ := open_agg5 Try.underlying24 (by kernel_rfl) (by kernel_rfl) (by kernel_rfl) (by kernel_rfl) (by kernel_rfl) (by kernel_rfl) (by kernel_rfl) (by kernel_rfl) (by kernel_rfl) (by kernel_rfl) (by kernel_rfl) (hval 2 24 v2 rfl rfl) h2
  obtain ⟨k_2, e0, _, wk2⟩ := DataW.trod_int Try.underlying3 t0
  obtain ⟨n_2, e1, _, wn2⟩ := DataW.trod_int Try.underlying2 t1
  obtain ⟨f_2, e2, _, wf2⟩ := trod_float Try.underlying22 t2
  obtain ⟨s_2, e3, _, ws2⟩ := DataW.trod_string Try.underlying9 t3
  obtain ⟨r_2, e4, _, wr2⟩ := DataW.trod_int Try.underlying3 t4
  simp only [List.cons.injEq, and_true] at e0 e1 e3 e4
  subst e0 e1 e2 e3 e4
  clear t0 t1 t2 t3 t4 hd hp h2
  clear hA0 hval0 hval
  refine (walk sv_0 tu_0 ps_0 k_1 n_1 f_1 s_1 r_1 k_2 n_2 f_2 s_2 r_2 W ta0 po0 pl0 wt0 ⟨wk1, wn1, wf1, ws1, wr1⟩ ⟨wk2, wn2, wf2, ws2, wr2⟩).mono fun e W' ⟨he, bel⟩ => ?_
  subst he
  exact ⟨_, rfl, _, _, _, [], _, [], hW', trodAll_mk1 (shut_bool Try.underlying4 _), (trodAll_cons_mk (Below.trod laidOut (by kernel_rfl) (of_decide_eq_true (by kernel_rfl)) k0 bel lt0) (trodAll_cons_mk (Below.trod laidOut (by kernel_rfl) (of_decide_eq_true (by kernel_rfl)) k1 bel lt1) (trodAll_cons_mk (Below.trod laidOut (by kernel_rfl) (of_decide_eq_true (by kernel_rfl)) k2 bel lt2) trodAll_mk0))), rfl, bel.frame _, fun h => by cases h⟩

theorem over : Rows.fnExactPutRow.holds Try.pinned (OpenSpec.ofChange Rows.fnExactPutSpec) :=
  OpenClaim.holds_of_wide 14 Try.f14 rfl rfl rfl rfl rfl rfl rfl ⟨rfl, rfl, rfl, rfl, rfl⟩ rfl rfl rfl rfl rfl (by kernel_rfl) Try.func14 (by kernel_rfl)
    (of_decide_eq_true (by kernel_rfl)) (by unfold Func.isWrapper; first | (rw [if_pos (by decide +kernel)]; kernel_rfl) | (rw [if_neg (by decide +kernel)]; exact ⟨rfl, rfl⟩))
    (fun os started H enc _ => lifted os started H enc)

end Go.Proofs.Ytkipmogmejfmcaa.lawPut
namespace Go.Proofs.Ytkipmogmejfmcaa
theorem put_holds : Rows.FnExactPutSaid := lawPut.over
#print axioms put_holds
end Go.Proofs.Ytkipmogmejfmcaa
