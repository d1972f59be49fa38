/-
  OWN WORK. The specification's shape: consts, names, the roles of fields, instructions.
-/
import Derived.Test.YtmicnjphlakoaaaGreatDoorCSpB
import Derived.Test.YtmicnjphlakoaaaGreatDoorCTo
import Derived.Test.YtmicnjphlakoaaaGreatDoorFl
import Derived.Deep.RegionWith
namespace Go.Proofs.YtmicnjphlakoaaaGreatDoor
open Go.RowKit
set_option linter.unusedVariables false
set_option linter.unusedSimpArgs false

theorem fz_two (f : Nat) (hf : f < 18446744073709551616) (h : fz f = true) : f = 0 ∨ f = 9223372036854775808 := by
  have h' : FloatKind.f64.format.order f 0 = some .eq := by simpa [fz] using h
  obtain ⟨s, e, hr⟩ := order_self f h'
  rcases Fl.read_cases f hf with ⟨t, M, L, hc, hw, hm⟩ | ⟨t, hm⟩ | ⟨t, u, hm⟩
  · have hr' : Ieee.double.read f = .number s 0 e := hr
    rw [hm] at hr'
    simp only [Ieee.Datum.number.injEq] at hr'
    obtain ⟨_, h0, _⟩ := hr'
    subst h0
    have hL : L = 0 := by
      have := hc.2.1
      omega
    subst hL
    cases t
    · left; rw [hw]; decide
    · right; rw [hw]; decide
  · have hr' : Ieee.double.read f = .number s 0 e := hr
    rw [hm] at hr'; cases hr'
  · have hr' : Ieee.double.read f = .number s 0 e := hr
    rw [hm] at hr'; cases hr'

theorem vok_fz {v : VD} (h : vok v.k v.n v.f v.s v.r = true) (h3 : ¬ v.k = 3) : fz v.f = true := by
  unfold vok at h
  repeat' split at h
  all_goals simp_all [zr]

theorem quo_pos : floatBits .quo .f64 4607182418800017408 0 = some 9218868437227405312 := by decide +kernel
theorem quo_neg : floatBits .quo .f64 4607182418800017408 9223372036854775808 = some 18442240474082181120 := by decide +kernel

set_option maxRecDepth 20000 in
set_option maxHeartbeats 1000000 in
theorem const_any (v : VD) (w : World) (ok : v.ok) :
    Calls Tryz.prog 20 #[VVd v] w fun e w' => e = .returned (.bool (constB v)) ∧ Below w.heap.size w w' := by
  obtain ⟨k, n, f, s, r⟩ := v
  obtain ⟨okf, oks⟩ := ok
  show Calls Tryz.prog 20 #[VV k n f s r] w fun e w' => e = .returned (.bool (constB ⟨k, n, f, s, r⟩)) ∧ Below w.heap.size w w'
  simp only at okf oks
  cases hv : vok k n f s r
  · go_enter Tryz.func20, Tryz.ntmps20
    go_wp2_with (go_at_call 38; refine (vok_any _ _ _ _ _ _ oks).mono ?_; rw [hv]; rintro e w' ⟨rfl, hb'⟩; obtain ⟨hb, c0, c1, c2, c3, c4⟩ := box5 hb'; clear hb')
    go_ret
    exact ⟨by simp [constB, hv], hb⟩
  · by_cases h5 : k = 5 ∨ k = 6 ∨ k = 7
    · rcases h5 with rfl | rfl | rfl
      all_goals
        go_enter Tryz.func20, Tryz.ntmps20
        go_wp2_with (go_at_call 38; refine (vok_any _ _ _ _ _ _ oks).mono ?_; rw [hv]; rintro e w' ⟨rfl, hb'⟩; obtain ⟨hb, c0, c1, c2, c3, c4⟩ := box5 hb'; clear hb')
        go_ret
        exact ⟨by simp [constB], hb⟩
    · have h5a : ¬ k = 5 := fun h => h5 (.inl h)
      have h5b : ¬ k = 6 := fun h => h5 (.inr (.inl h))
      have h5c : ¬ k = 7 := fun h => h5 (.inr (.inr h))
      clear h5
      have b5 : (k == 5) = false := by simpa using h5a
      have b6 : (k == 6) = false := by simpa using h5b
      have b7 : (k == 7) = false := by simpa using h5c
      by_cases h3 : k = 3
      · subst h3
        go_enter Tryz.func20, Tryz.ntmps20
        go_wp2_with (go_at_call 38; refine (vok_any _ _ _ _ _ _ oks).mono ?_; rw [hv]; rintro e w' ⟨rfl, hb'⟩; obtain ⟨hb, c0, c1, c2, c3, c4⟩ := box5 hb'; clear hb')
        go_ret
        exact ⟨by simp [constB, nanB, hv], hb⟩
      · have b3 : (k != 3) = true := by simpa using h3
        rcases fz_two f okf (vok_fz (v := ⟨k, n, f, s, r⟩) hv h3) with rfl | rfl
        · have hr : ∀ w : World, (binOp .quo 62 (.float .f64 4607182418800017408) (.float .f64 0)).run Tryz.prog w = .ok (.float .f64 9218868437227405312) w := fun w => run_float_arith w .quo 62 .f64 _ _ _ quo_pos
          have o1 : (FloatKind.f64.format.order 0 0 == some .eq) = true := by decide +kernel
          have o2 : FloatKind.f64.format.order 9218868437227405312 0 = some .gt := by decide +kernel
          go_enter Tryz.func20, Tryz.ntmps20
          go_wp2_with (go_at_call 38; refine (vok_any _ _ _ _ _ _ oks).mono ?_; rw [hv]; rintro e w' ⟨rfl, hb'⟩; obtain ⟨hb, c0, c1, c2, c3, c4⟩ := box5 hb'; clear hb')
          go_ret
          exact ⟨by simp [constB, hv, h3, h5a, h5b, h5c], hb⟩
        · have hr : ∀ w : World, (binOp .quo 62 (.float .f64 4607182418800017408) (.float .f64 9223372036854775808)).run Tryz.prog w = .ok (.float .f64 18442240474082181120) w := fun w => run_float_arith w .quo 62 .f64 _ _ _ quo_neg
          have o1 : (FloatKind.f64.format.order 9223372036854775808 0 == some .eq) = true := by decide +kernel
          have o2 : FloatKind.f64.format.order 18442240474082181120 0 = some .lt := by decide +kernel
          go_enter Tryz.func20, Tryz.ntmps20
          go_wp2_with (go_at_call 38; refine (vok_any _ _ _ _ _ _ oks).mono ?_; rw [hv]; rintro e w' ⟨rfl, hb'⟩; obtain ⟨hb, c0, c1, c2, c3, c4⟩ := box5 hb'; clear hb')
          go_ret
          exact ⟨by simp [constB, hv, h3, h5a, h5b, h5c], hb⟩

theorem ret_bo {a b : Bool} (h : a = b) : Ending.returned (.bool a) = .returned (.bool b) := by rw [h]

/-- A proto, as a value. -/
abbrev PV (f : FC) : Value := .agg #[.string f.d.name, .int .i64 f.d.line, .int .i64 f.d.params, .bool f.d.rest, .int .i64 f.d.regs, .slice f.au f.d.ups.length f.cu, .slice f.ac f.d.consts.length f.cc, .slice f.ai f.d.ins.length f.ci, .slice f.an f.d.named.length f.cn]

set_option maxRecDepth 100000 in
set_option maxHeartbeats 4000000 in
theorem named_any (f : FC) (i : Nat) (n : ND) (w : World) (hn : f.d.named[i]? = some n) (hl : SlA w 4 ND.cells f.an f.d.named) (ok : f.d.ok) (hr0 : 0 ≤ f.d.regs) (hr1 : f.d.regs ≤ 250) :
    Calls Tryz.prog 21 #[PV f, .int .i64 i] w fun e w' => e = .returned (.bool (namedB f.d i n)) ∧ Below w.heap.size w w' := by
  obtain ⟨b, off, ha, hb, hc⟩ := hl i n hn
  obtain ⟨d, au, cu, ac, cc, ai, ci, an, cn⟩ := f
  simp only at ha hn ok hr0 hr1 hc
  subst ha
  have d0 : w.cell? ⟨b, off + i * 4, none⟩ = some (.string n.s) := hc 0 _ rfl
  have d1 : w.cell? ⟨b, off + i * 4 + 1, none⟩ = some (.int .i64 n.reg) := hc 1 _ rfl
  have d2 : w.cell? ⟨b, off + i * 4 + 2, none⟩ = some (.int .i64 n.fr) := hc 2 _ rfl
  have d3 : w.cell? ⟨b, off + i * 4 + 3, none⟩ = some (.int .i64 n.to) := hc 3 _ rfl
  have hx := bw1 w (PO ⟨d, au, cu, ac, cc, ai, ci, some ⟨b, off, none⟩, cn⟩)
  have c0 := cell_later hx d0
  have c1 := cell_later hx d1
  have c2 := cell_later hx d2
  have c3 := cell_later hx d3
  clear d0 d1 d2 d3 hx
  have hil : i < d.named.length := (List.getElem?_eq_some_iff.1 hn).1
  have hsz : n.s.size ≤ maxLen := ok.n n (List.mem_of_getElem? hn)
  obtain ⟨oz, lu, lc, li, ln, ox, oy⟩ := ok
  unfold maxLen at hsz
  clear hc hb hn hl ox oy oz
  go_enter Tryz.func21, Tryz.ntmps21
  go_wp2_with (go_at_call 23; refine (in_any _ _ _ _).mono ?_; rintro e w' ⟨rfl, rfl⟩)
  all_goals
    go_ret
    refine ⟨ret_bo ?_, by exact bw2 _ _ _⟩
    clear c0 c1 c2 c3 hil hsz lu lc li ln hr0 hr1
    unfold namedB
    first
      | (simp [*]; done)
      | (simp [*]; intros; omega)

theorem op_cases {op : Int} (h0 : 1 ≤ op) (h1 : op ≤ 42) : op = 1 ∨ op = 2 ∨ op = 3 ∨ op = 4 ∨ op = 5 ∨ op = 6 ∨ op = 7 ∨ op = 8 ∨ op = 9 ∨ op = 10 ∨ op = 11 ∨ op = 12 ∨ op = 13 ∨ op = 14 ∨ op = 15 ∨ op = 16 ∨ op = 17 ∨ op = 18 ∨ op = 19 ∨ op = 20 ∨ op = 21 ∨ op = 22 ∨ op = 23 ∨ op = 24 ∨ op = 25 ∨ op = 26 ∨ op = 27 ∨ op = 28 ∨ op = 29 ∨ op = 30 ∨ op = 31 ∨ op = 32 ∨ op = 33 ∨ op = 34 ∨ op = 35 ∨ op = 36 ∨ op = 37 ∨ op = 38 ∨ op = 39 ∨ op = 40 ∨ op = 41 ∨ op = 42 := by omega
end Go.Proofs.YtmicnjphlakoaaaGreatDoor
