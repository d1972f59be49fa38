import Derived.Test.YtfkeklndcjkgcaaGreatDoorCsP
import Derived.Laws.Externs
/-
  OWN WORK. The program's shape: numbers between two, faults, heads, consts, names, ups.
-/
namespace Go.Proofs.YtfkeklndcjkgcaaGreatDoor
open Go.RowKit
attribute [local go_sem] run_store_float
set_option linter.unusedVariables false
set_option linter.unusedSimpArgs false

set_option maxHeartbeats 400000 in
theorem wi_any (x lo hi : Int) (w : World) :
    Calls Tryz.prog 95 #[.int .i64 x, .int .i64 lo, .int .i64 hi] w fun e w' => e = .returned (.bool (inR x lo hi)) ∧ w' = w := by
  by_cases h1 : lo ≤ x
  · by_cases h2 : x ≤ hi
    · go_enter Tryz.func95, Tryz.ntmps95
      go_wp2
      go_ret
      exact ⟨by simp [inR, h1, h2], rfl⟩
    · go_enter Tryz.func95, Tryz.ntmps95
      go_wp2
      go_ret
      exact ⟨by simp [inR, h1, h2], rfl⟩
  · go_enter Tryz.func95, Tryz.ntmps95
    go_wp2
    go_ret
    exact ⟨by simp [inR]; omega, rfl⟩

/-- An error of the program: none, or a fault. -/
def EV : Option F3 → Value
  | none => .nilIface
  | some t => .iface 142 (FV t.1 t.2.1 t.2.2)

set_option maxHeartbeats 400000 in
theorem fat_any (c p i : Int) (w : World) :
    Calls Tryz.prog 47 #[.int .i64 c, .int .i64 p, .int .i64 i] w fun e w' => e = .returned (EV (some (c, p, i))) ∧ w' = w := by
  go_enter Tryz.func47, Tryz.ntmps47
  go_wp2
  go_ret
  exact ⟨rfl, rfl⟩

set_option maxHeartbeats 400000 in
theorem goes_any (op : Int) (w : World) :
    Calls Tryz.prog 100 #[.int .i64 op] w fun e w' => e = .returned (.bool (!endsB op)) ∧ w' = w := by
  cases h1 : (op == 19)
  · cases h2 : (op == 29)
    · cases h3 : (op == 30)
      all_goals
        have h1' : (op != 19) = true := by simp [bne, h1]
        have h2' : (op != 29) = true := by simp [bne, h2]
        have h3' : (op != 30) = !(op == 30) := rfl
        rw [h3] at h3'
        go_enter Tryz.func100, Tryz.ntmps100
        go_wp2
        go_ret
        exact ⟨by simp [endsB, h1, h2, h3, h3'], rfl⟩
    · have h1' : (op != 19) = true := by simp [bne, h1]
      have h2' : (op != 29) = false := by simp [bne, h2]
      go_enter Tryz.func100, Tryz.ntmps100
      go_wp2
      go_ret
      exact ⟨by simp [endsB, h1, h2], rfl⟩
  · have h1' : (op != 19) = false := by simp [bne, h1]
    go_enter Tryz.func100, Tryz.ntmps100
    go_wp2
    go_ret
    exact ⟨by simp [endsB, h1], rfl⟩

set_option maxRecDepth 20000 in
set_option maxHeartbeats 1000000 in
theorem params_any (f : FC) (w : World) (hr0 : 0 ≤ f.d.regs) (hr1 : f.d.regs ≤ 250) :
    Calls Tryz.prog 96 #[PV f] w fun e w' => e = .returned (.bool (inR f.d.params 0 (if f.d.rest then f.d.regs - 1 else f.d.regs))) ∧ Below w.heap.size w w' := by
  cases hr : f.d.rest
  all_goals
    go_enter Tryz.func96, Tryz.ntmps96
    go_wp2_with (go_at_call 95; refine (wi_any _ _ _ _).mono ?_; rintro e w' ⟨rfl, rfl⟩)
    go_ret
    exact ⟨by simp, bw1 _ _⟩

set_option maxHeartbeats 400000 in
theorem isnan_any (x : Nat) (w : World) : Calls Tryz.prog 137 #[.float .f64 x] w fun e w' => e = .returned (.bool (nanB x)) ∧ w' = w := by
  go_enter Tryz.func137, Tryz.ntmps137
  go_wp2
  go_ret
  exact ⟨rfl, rfl⟩

theorem run_bits (x : Nat) (w : World) : (callFunc 121 #[.float .f64 x]).run Tryz.prog w = .ok (.value (.int .u64 x)) w := by
  rw [run_callFunc_extern (e := Extern.MathFloatBits.float64bits) Tryz.func121 (by kernel_rfl) (by kernel_rfl) (by kernel_rfl) (by kernel_rfl)]
  rfl

set_option maxRecDepth 20000 in
set_option maxHeartbeats 400000 in
theorem signbit0 (w : World) : Calls Tryz.prog 138 #[.float .f64 0] w fun e w' => e = .returned (.bool false) ∧ w' = w := by
  have hr := run_bits 0
  go_enter Tryz.func138, Tryz.ntmps138
  go_wp2
  go_ret
  exact ⟨by first | rfl | decide, rfl⟩
set_option maxRecDepth 20000 in
set_option maxHeartbeats 400000 in
theorem signbit1 (w : World) : Calls Tryz.prog 138 #[.float .f64 9223372036854775808] w fun e w' => e = .returned (.bool true) ∧ w' = w := by
  have hr := run_bits 9223372036854775808
  go_enter Tryz.func138, Tryz.ntmps138
  go_wp2
  go_ret
  exact ⟨ret_bo (by decide +kernel), rfl⟩
end Go.Proofs.YtfkeklndcjkgcaaGreatDoor

/-
  OWN WORK. The program's shape: consts, names, ups, sizes.
-/
namespace Go.Proofs.YtfkeklndcjkgcaaGreatDoor
open Go.RowKit
attribute [local go_sem] run_store_float
set_option linter.unusedVariables false
set_option linter.unusedSimpArgs false

set_option maxRecDepth 20000 in
set_option maxHeartbeats 1000000 in
theorem iconst_any (v : VD) (w : World) (ok : v.ok) :
    Calls Tryz.prog 97 #[VVd v] w fun e w' => e = .returned (.bool (constB v)) ∧ Below w.heap.size w w' := by
  obtain ⟨k, n, f, s, r⟩ := v
  obtain ⟨okf, oks⟩ := ok
  show Calls Tryz.prog 97 #[VV k n f s r] w fun e w' => e = .returned (.bool (constB ⟨k, n, f, s, r⟩)) ∧ Below w.heap.size w w'
  simp only at okf oks
  by_cases h5 : k = 5 ∨ k = 6 ∨ k = 7
  · rcases h5 with rfl | rfl | rfl
    all_goals
      go_enter Tryz.func97, Tryz.ntmps97
      go_wp2_with fail
      go_ret
      exact ⟨ret_bo (by simp [constB]), bw1 _ _⟩
  · have h5a : ¬ k = 5 := fun h => h5 (.inl h)
    have h5b : ¬ k = 6 := fun h => h5 (.inr (.inl h))
    have h5c : ¬ k = 7 := fun h => h5 (.inr (.inr h))
    clear h5
    have b5 : (k == 5) = false := by simpa using h5a
    have b6 : (k == 6) = false := by simpa using h5b
    have b7 : (k == 7) = false := by simpa using h5c
    cases hv : vok k n f s r
    · by_cases h3 : k = 3
      · subst h3
        go_enter Tryz.func97, Tryz.ntmps97
        go_wp2_with (go_at_call 136; refine (iok_any _ _ _ _ _ _).mono ?_; rw [hv]; rintro e w' ⟨rfl, hb'⟩; obtain ⟨hb, c0, c1, c2, c3, c4⟩ := box5 hb'; clear hb')
        go_ret
        exact ⟨ret_bo (by simp [constB, hv]), hb⟩
      · have b3 : (k == 3) = false := by simpa using h3
        go_enter Tryz.func97, Tryz.ntmps97
        go_wp2_with (go_at_call 136; refine (iok_any _ _ _ _ _ _).mono ?_; rw [hv]; rintro e w' ⟨rfl, hb'⟩; obtain ⟨hb, c0, c1, c2, c3, c4⟩ := box5 hb'; clear hb')
        go_ret
        exact ⟨ret_bo (by simp [constB, hv]), hb⟩
    · by_cases h3 : k = 3
      · subst h3
        go_enter Tryz.func97, Tryz.ntmps97
        go_wp2_with (first | (go_at_call 136; refine (iok_any _ _ _ _ _ _).mono ?_; rw [hv]; rintro e w' ⟨rfl, hb'⟩; obtain ⟨hb, c0, c1, c2, c3, c4⟩ := box5 hb'; clear hb') | (go_at_call 137; refine (isnan_any _ _).mono ?_; rintro e w' ⟨rfl, rfl⟩))
        go_ret
        exact ⟨ret_bo (by simp [constB, hv]), hb⟩
      · have b3 : (k == 3) = false := by simpa using h3
        rcases fz_two f okf (vok_fz (v := ⟨k, n, f, s, r⟩) hv h3) with rfl | rfl
        · go_enter Tryz.func97, Tryz.ntmps97
          go_wp2_with (first | (go_at_call 136; refine (iok_any _ _ _ _ _ _).mono ?_; rw [hv]; rintro e w' ⟨rfl, hb'⟩; obtain ⟨hb, c0, c1, c2, c3, c4⟩ := box5 hb'; clear hb') | (go_at_call 138; refine (signbit0 _).mono ?_; rintro e w' ⟨rfl, rfl⟩))
          go_ret
          exact ⟨ret_bo (by simp [constB, hv, h3, h5a, h5b, h5c]), hb⟩
        · go_enter Tryz.func97, Tryz.ntmps97
          go_wp2_with (first | (go_at_call 136; refine (iok_any _ _ _ _ _ _).mono ?_; rw [hv]; rintro e w' ⟨rfl, hb'⟩; obtain ⟨hb, c0, c1, c2, c3, c4⟩ := box5 hb'; clear hb') | (go_at_call 138; refine (signbit1 _).mono ?_; rintro e w' ⟨rfl, rfl⟩))
          go_ret
          exact ⟨ret_bo (by simp [constB, hv, h3, h5a, h5b, h5c]), hb⟩

/-- A name is as it should be, but for its number. -/
def nam1 (f : FD) (n : ND) : Bool := inR n.s.size 1 40 && inR n.reg 0 (f.regs - 1) && inR n.fr 0 n.to && decide (n.to ≤ (f.ins.length : Int))
theorem named_nam {f : FD} {i : Nat} {n : ND} : namedB f i n = (decide ((i : Int) < 500) && nam1 f n) := by
  unfold namedB nam1 inR
  simp only [Bool.and_assoc]

set_option maxRecDepth 20000 in
set_option maxHeartbeats 4000000 in
theorem inamed_any (f : FC) (n : ND) (w : World) (hs : n.s.size ≤ maxLen) (ok : f.d.ok) (hr0 : 0 ≤ f.d.regs) (hr1 : f.d.regs ≤ 250) :
    Calls Tryz.prog 98 #[NV n, PV f] w fun e w' => e = .returned (.bool (nam1 f.d n)) ∧ Below w.heap.size w w' := by
  unfold maxLen at hs
  have li := ok.li
  clear ok
  cases h1 : inR n.s.size 1 40
  · go_enter Tryz.func98, Tryz.ntmps98
    go_wp2_with (go_at_call 95; refine (wi_any _ _ _ _).mono ?_; rw [h1]; rintro e w' ⟨rfl, rfl⟩)
    go_ret
    exact ⟨ret_bo (by simp [nam1, h1]), bw2 _ _ _⟩
  · cases h2 : inR n.reg 0 (f.d.regs - 1)
    · go_enter Tryz.func98, Tryz.ntmps98
      go_wp2_with (go_at_call 95; refine (wi_any _ _ _ _).mono ?_; (first | rw [h1] | rw [h2]); rintro e w' ⟨rfl, rfl⟩)
      go_ret
      exact ⟨ret_bo (by simp [nam1, h2]), bw2 _ _ _⟩
    · cases h3 : inR n.fr 0 n.to
      · go_enter Tryz.func98, Tryz.ntmps98
        go_wp2_with (go_at_call 95; refine (wi_any _ _ _ _).mono ?_; (first | rw [h1] | rw [h2] | rw [h3]); rintro e w' ⟨rfl, rfl⟩)
        go_ret
        exact ⟨ret_bo (by simp [nam1, h3]), bw2 _ _ _⟩
      · go_enter Tryz.func98, Tryz.ntmps98
        go_wp2_with (go_at_call 95; refine (wi_any _ _ _ _).mono ?_; (first | rw [h1] | rw [h2] | rw [h3]); rintro e w' ⟨rfl, rfl⟩)
        go_ret
        exact ⟨ret_bo (by simp [nam1, h1, h2, h3]), bw2 _ _ _⟩

set_option maxRecDepth 20000 in
set_option maxHeartbeats 4000000 in
theorem iups_any (a : Option Addr) (len cap : Nat) (us : List UD) (f : FC) (w : World) (hl : us.length = len) (hs : SlA w 2 UD.cells a us) (hlen : len ≤ 1048576) (ok : f.d.ok) (hr0 : 0 ≤ f.d.regs) (hr1 : f.d.regs ≤ 250) :
    Calls Tryz.prog 101 #[.slice a len cap, PV f] w fun e w' => e = .returned (.bool (upsB f.d us)) ∧ Below w.heap.size w w' := by
  have HS : Hid (SlA w 2 UD.cells a us) := hs
  have HL : Hid (us.length = len) := hl
  have lf := ok.lu
  clear hs hl ok
  go_enter Tryz.func101, Tryz.ntmps101
  go_wp2_with fail
  go_loopw [10] (fun i wr => ∃ m : Nat, m ≤ len ∧ i = .int .i64 m ∧ Below w.heap.size w wr ∧ Hid (wr.heap[w.heap.size]? = some (PO f)) ∧ Hid (∀ j u, j < m → us[j]? = some u → upB f.d u = true)) (fun i _ => len - (intOf i).toNat)
  case atStart => exact ⟨0, by omega, rfl, bw1 _ _, blk_new _ _, fun j u hj => absurd hj (Nat.not_lt_zero _)⟩
  case round =>
    obtain ⟨m, hm, rfl, hB, B0, HF⟩ := hrel
    by_cases k1 : m < len
    · obtain ⟨u, hu⟩ : ∃ u, us[m]? = some u := ⟨us[m]'(by rw [HL.out]; exact k1), by simp⟩
      obtain ⟨bu, ou, rfl, hbu, hcu⟩ := HS.out m u hu
      have d0 : wr.cell? ⟨bu, ou + m * 2, none⟩ = some (.bool u.l) := cell_later hB (hcu 0 _ rfl)
      have d1 : wr.cell? ⟨bu, ou + m * 2 + 1, none⟩ = some (.int .i64 u.i) := cell_later hB (hcu 1 _ rfl)
      have HN : Hid (upB f.d u = false → upsB f.d us = false) := upsB_not hu
      have HF1 : Hid (upB f.d u = true → ∀ j v, j < m + 1 → us[j]? = some v → upB f.d v = true) := by
        intro ht j v hj hv
        by_cases hjm : j = m
        · subst hjm; rw [hu] at hv; cases hv; exact ht
        · exact HF.out j v (by omega) hv
      clear HF hu hcu hbu
      obtain ⟨ul, ui⟩ := u
      simp only at d0 d1 HN HF1
      have hy := bw1 wr (.cells #[.bool ul, .int .i64 ui] 110)
      have p4 : (wr.alloc (.cells #[.bool ul, .int .i64 ui] 110)).cell? ⟨w.heap.size, 4, none⟩ = some (.int .i64 f.d.regs) := by rw [blk_cell (blk_later hy B0.out)]; rfl
      have p5 : (wr.alloc (.cells #[.bool ul, .int .i64 ui] 110)).cell? ⟨w.heap.size, 5, none⟩ = some (.slice f.au f.d.ups.length f.cu) := by rw [blk_cell (blk_later hy B0.out)]; rfl
      replace hB := hB.trans (hy.mono hB.size)
      replace B0 : Hid _ := blk_later hy B0.out
      clear hy
      cases ul
      · cases hin : inR ui 0 ((f.d.ups.length : Int) - 1)
        · have HR : Hid (upsB f.d us = false) := HN.out (by simp [upB, hin])
          go_wp2_with (go_at_call 95; refine (wi_any _ _ _ _).mono ?_; rw [hin]; rintro e w' ⟨rfl, rfl⟩)
          go_ret
          exact ⟨ret_bo HR.out.symm, hB⟩
        · have HF2 : Hid _ := HF1.out (by simp [upB, hin])
          go_wp2_with (go_at_call 95; refine (wi_any _ _ _ _).mono ?_; rw [hin]; rintro e w' ⟨rfl, rfl⟩)
          go_roundw
          case rel => exact ⟨m + 1, by omega, by go_num, hB, B0, HF2⟩
          case measure => simp [intOf]; omega
      · cases hin : inR ui 0 (f.d.regs - 1)
        · have HR : Hid (upsB f.d us = false) := HN.out (by simp [upB, hin])
          go_wp2_with (go_at_call 95; refine (wi_any _ _ _ _).mono ?_; rw [hin]; rintro e w' ⟨rfl, rfl⟩)
          go_ret
          exact ⟨ret_bo HR.out.symm, hB⟩
        · have HF2 : Hid _ := HF1.out (by simp [upB, hin])
          go_wp2_with (go_at_call 95; refine (wi_any _ _ _ _).mono ?_; rw [hin]; rintro e w' ⟨rfl, rfl⟩)
          go_roundw
          case rel => exact ⟨m + 1, by omega, by go_num, hB, B0, HF2⟩
          case measure => simp [intOf]; omega
    · have HR : Hid (upsB f.d us = true) := upsB_all fun j u hu => HF.out j u (by have := (List.getElem?_eq_some_iff.1 hu).1; have := HL.out; omega) hu
      clear HF
      go_wp2_with fail
      go_ret
      exact ⟨ret_bo HR.out.symm, hB⟩

set_option maxRecDepth 20000 in
set_option maxHeartbeats 4000000 in
theorem isize_any (a : Option Addr) (len cap : Nat) (xs : List FC) (w : World) (H0 : CodeAt w a xs) (hl : xs.length = len) (v : Bool) (hv : v = true ↔ ¬ badSize (xs.map FC.d)) :
    Calls Tryz.prog 46 #[.agg #[.slice a len cap]] w fun e w' => e = .returned (.bool v) ∧ Below w.heap.size w w' := by
  have hlen : len ≤ 1048576 := by rw [← hl]; exact H0.len
  have H : Hid (CodeAt w a xs) := H0
  have HL : Hid (xs.length = len) := hl
  have HV : Hid (v = true ↔ ¬ (len = 0 ∨ 200 < len ∨ 6000 < (xs.map fun x => x.d.ins.length).sum)) := by show _ ↔ _; rw [hv]; unfold badSize; rw [List.length_map, hl, total_eq]
  clear H0 hl hv
  by_cases hz : len = 0
  · have hv : v = false := by have h := HV.out; simp [hz] at h; exact h
    have hz' : ((len : Int) == 0) = true := by simp [hz]
    go_enter Tryz.func46, Tryz.ntmps46
    go_wp2_with fail
    go_ret
    exact ⟨ret_bo hv.symm, bw1 _ _⟩
  have hz' : ((len : Int) == 0) = false := by simpa using hz
  by_cases hz2 : 200 < len
  · have hv : v = false := by have h := HV.out; simp [hz2] at h; exact h
    go_enter Tryz.func46, Tryz.ntmps46
    go_wp2_with fail
    go_ret
    exact ⟨ret_bo hv.symm, bw1 _ _⟩
  go_enter Tryz.func46, Tryz.ntmps46
  go_wp2_with fail
  go_loopw [3, 19] (fun t i wr => ∃ (m s : Nat), m ≤ len ∧ i = .int .i64 m ∧ t = .int .i64 s ∧ s ≤ 1048576 ∧ Hid (s = ((xs.take m).map fun x => x.d.ins.length).sum) ∧ Below w.heap.size w wr) (fun _ i _ => len - (intOf i).toNat)
  case atStart => exact ⟨0, 0, Nat.zero_le _, rfl, rfl, by omega, rfl, bw1 _ _⟩
  case round =>
    obtain ⟨m, s, hm, rfl, rfl, hs, HS, hB⟩ := hrel
    by_cases k1 : m < len
    · obtain ⟨f, hf⟩ : ∃ f, xs[m]? = some f := ⟨xs[m]'(by rw [HL.out]; exact k1), by simp⟩
      obtain ⟨b, off, rfl, hb, hc⟩ := H.out.nine hf
      obtain ⟨c0, c1, c2, c3, c4, c5, c6, c7, c8⟩ := hc.later hB
      have hst : s + f.d.ins.length ≤ 1048576 := by
        have h1 := sum_take hf
        have h2 := sum_le (xs := xs) (m + 1)
        have h3 := H.out.all
        have h4 := HS.out
        omega
      have HS1 : Hid (s + f.d.ins.length = ((xs.take (m + 1)).map fun x => x.d.ins.length).sum) := by show s + f.d.ins.length = _; rw [sum_take hf, ← HS.out]
      clear hf hc hb HS
      go_wp2_with fail
      go_roundw
      case rel => exact ⟨m + 1, s + f.d.ins.length, by omega, by go_num, by go_num, by omega, HS1, below_alloc hB _⟩
      case measure => simp [intOf]; omega
    · have HR : Hid (decide ((s : Int) ≤ 6000) = v) := by
        have h1 := HS.out
        rw [List.take_of_length_le (by rw [HL.out]; omega)] at h1
        have h2 := HV.out
        rw [← h1] at h2
        show decide ((s : Int) ≤ 6000) = v
        cases v
        · simp at h2 ⊢; omega
        · simp at h2 ⊢; omega
      clear HS
      go_wp2_with fail
      go_ret
      exact ⟨ret_bo HR.out, hB⟩
end Go.Proofs.YtfkeklndcjkgcaaGreatDoor

/-
  OWN WORK. The program's shape: its table of roles, the fields of an instruction and their bounds.
-/
namespace Go.Proofs.YtfkeklndcjkgcaaGreatDoor
open Go.RowKit
attribute [local go_sem] run_store_float
set_option linter.unusedVariables false
set_option linter.unusedSimpArgs false

/-- The program's table. -/
def layT : List (List Int) :=
  [[0, 0, 0, 0], [1, 0, 0, 0], [2, 0, 0, 0], [0, 0, 0, 0], [20, 3, 0, 0], [20, 12, 0, 0], [21, 12, 0, 0], [20, 15, 0, 0], [15, 12, 0, 0], [20, 4, 0, 0], [4, 12, 0, 0], [20, 5, 0, 0],
   [20, 0, 0, 0], [14, 12, 12, 0], [14, 12, 13, 0], [20, 12, 12, 0], [12, 12, 12, 0], [20, 7, 12, 0], [20, 8, 12, 12], [6, 0, 0, 0], [12, 6, 0, 0], [12, 6, 0, 0],
   [22, 0, 0, 0], [16, 12, 0, 0], [16, 13, 0, 0], [20, 13, 0, 0], [20, 16, 9, 0], [22, 16, 0, 0], [22, 12, 13, 0], [13, 0, 0, 0], [12, 0, 0, 0], [6, 11, 0, 0],
   [0, 0, 0, 0], [10, 0, 0, 0], [10, 0, 0, 0], [12, 13, 0, 0], [0, 0, 0, 0], [17, 0, 0, 0], [17, 6, 0, 0], [17, 6, 0, 0], [18, 0, 0, 0], [19, 6, 22, 0], [23, 0, 0, 0]]
def li (i j : Nat) : Int := (layT.getD i []).getD j 0
/-- The table lies in memory. -/
def LayAt (w : World) : Prop := ∀ i j, i < 43 → j < 4 → w.cell? ⟨2, i * 4 + j, none⟩ = some (.int .i64 (li i j))
theorem LayAt.later {w wx : World} (hb : Below w.heap.size w wx) (h : LayAt w) : LayAt wx := fun i j hi hj => cell_later hb (h i j hi hj)

/-- The specification's number of one of the program's roles. -/
def convT : List Int := [0, 11, 12, 7, 8, 9, 10, 15, 16, 17, 13, 14, 2, 3, 4, 5, 6, 18, 19, 20, 1, 1, 1, 21]
def conv (r : Nat) : Int := convT.getD r 0
theorem lay_fits : ∀ op : Fin 43, 1 ≤ op.val → ∀ j : Fin 4, 0 ≤ li op.val j.val ∧ li op.val j.val < 24 ∧ conv (li op.val j.val).toNat = rl (op.val : Int) j.val := by decide +kernel

abbrev F8 (k : Nat) (n : ID) : Value := .agg #[.int .i64 (li k 0), .int .i64 n.a, .int .i64 (li k 1), .int .i64 n.b, .int .i64 (li k 2), .int .i64 n.c, .int .i64 (li k 3), .int .i64 n.d]

set_option maxRecDepth 20000 in
set_option maxHeartbeats 2000000 in
theorem fieldsof_any (n : ID) (k : Nat) (w : World) (hk : n.op = k) (h1 : k < 43) (hl : LayAt w) :
    Calls Tryz.prog 139 #[IV n] w fun e w' => e = .returned (F8 k n) ∧ Below w.heap.size w w' := by
  have hx := bw2 w (.cells #[.int .i64 n.op, .int .i64 n.a, .int .i64 n.b, .int .i64 n.c, .int .i64 n.d] 52) (.cells #[.int .i64 0, .int .i64 0, .int .i64 0, .int .i64 0, .int .i64 0, .int .i64 0, .int .i64 0, .int .i64 0] 196)
  have l0 := cell_later hx (show w.cell? ⟨2, k * 4, none⟩ = some (.int .i64 (li k 0)) from hl k 0 h1 (by omega))
  have l1 := cell_later hx (hl k 1 h1 (by omega))
  have l2 := cell_later hx (hl k 2 h1 (by omega))
  have l3 := cell_later hx (hl k 3 h1 (by omega))
  clear hx hl
  obtain ⟨op, na, nb, nc, nd⟩ := n
  simp only at hk l0 l1 l2 l3
  subst hk
  go_enter Tryz.func139, Tryz.ntmps139
  go_wp2_with fail
  exact bodyPost_ret (v := F8 k ⟨(k : Int), na, nb, nc, nd⟩) (by simp [results, Tryz.results139, go_sem]) rfl ⟨rfl, bw3 _ _ _ _⟩

theorem r_cases {r : Nat} (h : r < 24) : r = 0 ∨ r = 1 ∨ r = 2 ∨ r = 3 ∨ r = 4 ∨ r = 5 ∨ r = 6 ∨ r = 7 ∨ r = 8 ∨ r = 9 ∨ r = 10 ∨ r = 11 ∨ r = 12 ∨ r = 13 ∨ r = 14 ∨ r = 15 ∨ r = 16 ∨ r = 17 ∨ r = 18 ∨ r = 19 ∨ r = 20 ∨ r = 21 ∨ r = 22 ∨ r = 23 := by omega
theorem ret_two {a b c d : Int} (h1 : a = c) (h2 : b = d) : Ending.returned (.tuple #[.int .i64 a, .int .i64 b]) = .returned (.tuple #[.int .i64 c, .int .i64 d]) := by rw [h1, h2]

set_option maxRecDepth 20000 in
set_option maxHeartbeats 8000000 in
theorem bounds_any (r : Nat) (b off len cap p : Nat) (f : FC) (w : World) (hr : r < 24) (hpl : p < len) (hlen : len ≤ 1048576) (hc : Cell9 w b (off + p * 9) f) (hr0 : 0 ≤ f.d.regs) (hr1 : f.d.regs ≤ 250) (ok : f.d.ok) :
    Calls Tryz.prog 140 #[.int .i64 r, .agg #[.slice (some ⟨b, off, none⟩) len cap], .int .i64 p] w fun e w' => e = .returned (.tuple #[.int .i64 (lohi len f.d (conv r)).1, .int .i64 (lohi len f.d (conv r)).2]) ∧ Below w.heap.size w w' := by
  obtain ⟨c0, c1, c2, c3, c4, c5, c6, c7, c8⟩ := hc.later (bw1 w (CO (.slice (some ⟨b, off, none⟩) len cap)))
  obtain ⟨on, lu, lc, lli, ln, _, _⟩ := ok
  clear hc on ln
  have hcs := r_cases hr
  clear hr
  rcases hcs with rfl | rfl | rfl | rfl | rfl | rfl | rfl | rfl | rfl | rfl | rfl | rfl | rfl | rfl | rfl | rfl | rfl | rfl | rfl | rfl | rfl | rfl | rfl | rfl
  all_goals
    go_enter Tryz.func140, Tryz.ntmps140
    go_wp2_with fail
    try (go_quiet (fail); go_wp2_with fail)
    refine bodyPost_ret ?_ rfl ⟨rfl, ?_⟩
    · simp [results, Tryz.results140, go_sem, lohi, conv, convT]
    · first | exact bw2 _ _ _ | exact (bw2 _ _ _).trans (below_dr _ _ _)
end Go.Proofs.YtfkeklndcjkgcaaGreatDoor

/-
  OWN WORK. The program's shape: an instruction is as the table says.
-/
namespace Go.Proofs.YtfkeklndcjkgcaaGreatDoor
open Go.RowKit
set_option linter.unusedVariables false
set_option linter.unusedSimpArgs false

theorem idx4_0 (a0 a1 a2 a3 a4 a5 a6 a7 : Value) (w : World) : (Instr.index 196 (.agg #[a0, a1, a2, a3, a4, a5, a6, a7]) (.int .i64 0)).run Tryz.prog w = .ok (.agg #[a0, a1]) w := by kernel_rfl
theorem idx4_1 (a0 a1 a2 a3 a4 a5 a6 a7 : Value) (w : World) : (Instr.index 196 (.agg #[a0, a1, a2, a3, a4, a5, a6, a7]) (.int .i64 1)).run Tryz.prog w = .ok (.agg #[a2, a3]) w := by kernel_rfl
theorem idx4_2 (a0 a1 a2 a3 a4 a5 a6 a7 : Value) (w : World) : (Instr.index 196 (.agg #[a0, a1, a2, a3, a4, a5, a6, a7]) (.int .i64 2)).run Tryz.prog w = .ok (.agg #[a4, a5]) w := by kernel_rfl
theorem idx4_3 (a0 a1 a2 a3 a4 a5 a6 a7 : Value) (w : World) : (Instr.index 196 (.agg #[a0, a1, a2, a3, a4, a5, a6, a7]) (.int .i64 3)).run Tryz.prog w = .ok (.agg #[a6, a7]) w := by kernel_rfl

theorem lay_nat {k j : Nat} (h0 : 1 ≤ k) (h1 : k < 43) (hj : j < 4) : ∃ r : Nat, li k j = r ∧ r < 24 ∧ conv r = rl (k : Int) j := by
  obtain ⟨a, b, c⟩ := lay_fits ⟨k, h1⟩ h0 ⟨j, hj⟩
  simp only at a b c
  exact ⟨(li k j).toNat, by omega, by omega, c⟩

set_option maxRecDepth 20000 in
set_option maxHeartbeats 8000000 in
theorem iins_any (b off len cap p : Nat) (f : FC) (n : ID) (w : World) (hpl : p < len) (hlen : len ≤ 1048576) (hc : Cell9 w b (off + p * 9) f) (ok : f.d.ok) (hr0 : 0 ≤ f.d.regs) (hr1 : f.d.regs ≤ 250) (hl : LayAt w) :
    Calls Tryz.prog 99 #[.agg #[.slice (some ⟨b, off, none⟩) len cap], .int .i64 p, IV n] w fun e w' => e = .returned (.bool (fieldsB len f.d n)) ∧ Below w.heap.size w w' := by
  have HC : Hid (Cell9 w b (off + p * 9) f) := hc
  have HO : Hid f.d.ok := ok
  have HLY : Hid (LayAt w) := hl
  clear hc ok hl
  cases hin : inR n.op 1 42
  · go_enter Tryz.func99, Tryz.ntmps99
    go_wp2_with (go_at_call 95; refine (wi_any _ _ _ _).mono ?_; rw [hin]; rintro e w' ⟨rfl, rfl⟩)
    go_ret
    exact ⟨ret_bo (by simp [fieldsB, hin]), bw2 _ _ _⟩
  have hop : 1 ≤ n.op ∧ n.op ≤ 42 := by simpa [inR] using hin
  obtain ⟨h0, h1⟩ := hop
  obtain ⟨k, hk⟩ : ∃ k : Nat, n.op = k := ⟨n.op.toNat, by omega⟩
  have hk0 : 1 ≤ k := by omega
  have hk1 : k < 43 := by omega
  obtain ⟨q0, e0, l0, t0⟩ := lay_nat hk0 hk1 (j := 0) (by omega)
  obtain ⟨q1, e1, l1, t1⟩ := lay_nat hk0 hk1 (j := 1) (by omega)
  obtain ⟨q2, e2, l2, t2⟩ := lay_nat hk0 hk1 (j := 2) (by omega)
  obtain ⟨q3, e3, l3, t3⟩ := lay_nat hk0 hk1 (j := 3) (by omega)
  have T0 : Hid (lohi len f.d (conv q0) = lohi len f.d (rl n.op 0)) := by show lohi _ _ _ = _; rw [t0, hk]
  have T1 : Hid (lohi len f.d (conv q1) = lohi len f.d (rl n.op 1)) := by show lohi _ _ _ = _; rw [t1, hk]
  have T2 : Hid (lohi len f.d (conv q2) = lohi len f.d (rl n.op 2)) := by show lohi _ _ _ = _; rw [t2, hk]
  have T3 : Hid (lohi len f.d (conv q3) = lohi len f.d (rl n.op 3)) := by show lohi _ _ _ = _; rw [t3, hk]
  have HK : Hid (n.op = k) := hk
  clear t0 t1 t2 t3 hk
  go_enter Tryz.func99, Tryz.ntmps99
  go_wp2_with (go_at_call 95; refine (wi_any _ _ _ _).mono ?_; rw [hin]; rintro e w' ⟨rfl, rfl⟩)
  refine (fieldsof_any n k _ HK.out hk1 (HLY.out.later (bw2 _ _ _))).mono ?_
  simp only [F8, e0, e1, e2, e3]
  rintro e w1 ⟨rfl, hx⟩
  have B0 : Hid (w1.heap[w.heap.size]? = some (CO (.slice (some ⟨b, off, none⟩) len cap))) := blk_later hx (blk_old (blk_new _ _) _)
  have hB : Below w.heap.size w w1 := (bw2 _ _ _).trans (hx.mono (by simp; omega))
  clear hx e0 e1 e2 e3
  go_wp2_with fail
  go_loopw [17] (fun i wr => ∃ m : Nat, m ≤ 4 ∧ i = .int .i64 m ∧ Below w.heap.size w wr ∧ Hid (wr.heap[w.heap.size]? = some (CO (.slice (some ⟨b, off, none⟩) len cap))) ∧ Hid (∀ j, j < m → fitsB len f.d (rl n.op j) (fv n j) = true)) (fun i _ => 4 - (intOf i).toNat)
  case atStart => exact ⟨0, by omega, rfl, hB, B0, fun j hj => absurd hj (Nat.not_lt_zero _)⟩
  case round =>
    clear hB B0
    obtain ⟨m, hm, rfl, hB, B0, HF⟩ := hrel
    by_cases k1 : m < 4
    · have hmc : m = 0 ∨ m = 1 ∨ m = 2 ∨ m = 3 := by omega
      rcases hmc with rfl | rfl | rfl | rfl
      · have hy := bw1 wr (.cells #[.int .i64 q0, .int .i64 n.a] 195)
        have a0 : (wr.alloc (.cells #[.int .i64 q0, .int .i64 n.a] 195)).cell? ⟨w.heap.size, 0, none⟩ = some (.slice (some ⟨b, off, none⟩) len cap) := by rw [blk_cell (blk_later hy B0.out)]; rfl
        have hix := idx4_0 (.int .i64 q0) (.int .i64 n.a) (.int .i64 q1) (.int .i64 n.b) (.int .i64 q2) (.int .i64 n.c) (.int .i64 q3) (.int .i64 n.d)
        have hBa := hB.trans (hy.mono hB.size)
        have B0a : Hid _ := blk_later hy B0.out
        cases hfit : inR n.a (lohi len f.d (conv q0)).1 (lohi len f.d (conv q0)).2
        · have HN : Hid (fieldsB len f.d n = false) := fields_not (j := 0) (by omega) (by rw [T0.out] at hfit; exact hfit)
          go_wp2_with fail
          refine (bounds_any q0 b off len cap p f _ l0 hpl hlen (HC.out.later hBa) hr0 hr1 HO.out).mono ?_
          rintro e w2 ⟨rfl, hx⟩
          have n1 : w2.cell? ⟨wr.heap.size, 1, none⟩ = some (.int .i64 n.a) := by rw [blk_cell (blk_later hx (blk_new _ _))]; rfl
          replace hB := hBa.trans (hx.mono hBa.size)
          clear hx a0
          go_wp2_with (go_at_call 95; refine (wi_any _ _ _ _).mono ?_; rw [hfit]; rintro e w' ⟨rfl, rfl⟩)
          go_ret
          exact ⟨ret_bo HN.out.symm, hB⟩
        · have HF1 : Hid (∀ j, j < 0 + 1 → fitsB len f.d (rl n.op j) (fv n j) = true) := by
            intro j hj
            by_cases hjm : j = 0
            · subst hjm; rw [T0.out] at hfit; exact hfit
            · exact HF.out j (by omega)
          clear HF
          go_wp2_with fail
          refine (bounds_any q0 b off len cap p f _ l0 hpl hlen (HC.out.later hBa) hr0 hr1 HO.out).mono ?_
          rintro e w2 ⟨rfl, hx⟩
          have n1 : w2.cell? ⟨wr.heap.size, 1, none⟩ = some (.int .i64 n.a) := by rw [blk_cell (blk_later hx (blk_new _ _))]; rfl
          replace hB := hBa.trans (hx.mono hBa.size)
          replace B0 : Hid _ := blk_later hx B0a.out
          clear hx a0
          go_wp2_with (go_at_call 95; refine (wi_any _ _ _ _).mono ?_; rw [hfit]; rintro e w' ⟨rfl, rfl⟩)
          go_roundw
          case rel => exact ⟨0 + 1, by omega, by go_num, hB, B0, HF1⟩
          case measure => simp [intOf]
      · have hy := bw1 wr (.cells #[.int .i64 q1, .int .i64 n.b] 195)
        have a0 : (wr.alloc (.cells #[.int .i64 q1, .int .i64 n.b] 195)).cell? ⟨w.heap.size, 0, none⟩ = some (.slice (some ⟨b, off, none⟩) len cap) := by rw [blk_cell (blk_later hy B0.out)]; rfl
        have hix := idx4_1 (.int .i64 q0) (.int .i64 n.a) (.int .i64 q1) (.int .i64 n.b) (.int .i64 q2) (.int .i64 n.c) (.int .i64 q3) (.int .i64 n.d)
        have hBa := hB.trans (hy.mono hB.size)
        have B0a : Hid _ := blk_later hy B0.out
        cases hfit : inR n.b (lohi len f.d (conv q1)).1 (lohi len f.d (conv q1)).2
        · have HN : Hid (fieldsB len f.d n = false) := fields_not (j := 1) (by omega) (by rw [T1.out] at hfit; exact hfit)
          go_wp2_with fail
          refine (bounds_any q1 b off len cap p f _ l1 hpl hlen (HC.out.later hBa) hr0 hr1 HO.out).mono ?_
          rintro e w2 ⟨rfl, hx⟩
          have n1 : w2.cell? ⟨wr.heap.size, 1, none⟩ = some (.int .i64 n.b) := by rw [blk_cell (blk_later hx (blk_new _ _))]; rfl
          replace hB := hBa.trans (hx.mono hBa.size)
          clear hx a0
          go_wp2_with (go_at_call 95; refine (wi_any _ _ _ _).mono ?_; rw [hfit]; rintro e w' ⟨rfl, rfl⟩)
          go_ret
          exact ⟨ret_bo HN.out.symm, hB⟩
        · have HF1 : Hid (∀ j, j < 1 + 1 → fitsB len f.d (rl n.op j) (fv n j) = true) := by
            intro j hj
            by_cases hjm : j = 1
            · subst hjm; rw [T1.out] at hfit; exact hfit
            · exact HF.out j (by omega)
          clear HF
          go_wp2_with fail
          refine (bounds_any q1 b off len cap p f _ l1 hpl hlen (HC.out.later hBa) hr0 hr1 HO.out).mono ?_
          rintro e w2 ⟨rfl, hx⟩
          have n1 : w2.cell? ⟨wr.heap.size, 1, none⟩ = some (.int .i64 n.b) := by rw [blk_cell (blk_later hx (blk_new _ _))]; rfl
          replace hB := hBa.trans (hx.mono hBa.size)
          replace B0 : Hid _ := blk_later hx B0a.out
          clear hx a0
          go_wp2_with (go_at_call 95; refine (wi_any _ _ _ _).mono ?_; rw [hfit]; rintro e w' ⟨rfl, rfl⟩)
          go_roundw
          case rel => exact ⟨1 + 1, by omega, by go_num, hB, B0, HF1⟩
          case measure => simp [intOf]
      · have hy := bw1 wr (.cells #[.int .i64 q2, .int .i64 n.c] 195)
        have a0 : (wr.alloc (.cells #[.int .i64 q2, .int .i64 n.c] 195)).cell? ⟨w.heap.size, 0, none⟩ = some (.slice (some ⟨b, off, none⟩) len cap) := by rw [blk_cell (blk_later hy B0.out)]; rfl
        have hix := idx4_2 (.int .i64 q0) (.int .i64 n.a) (.int .i64 q1) (.int .i64 n.b) (.int .i64 q2) (.int .i64 n.c) (.int .i64 q3) (.int .i64 n.d)
        have hBa := hB.trans (hy.mono hB.size)
        have B0a : Hid _ := blk_later hy B0.out
        cases hfit : inR n.c (lohi len f.d (conv q2)).1 (lohi len f.d (conv q2)).2
        · have HN : Hid (fieldsB len f.d n = false) := fields_not (j := 2) (by omega) (by rw [T2.out] at hfit; exact hfit)
          go_wp2_with fail
          refine (bounds_any q2 b off len cap p f _ l2 hpl hlen (HC.out.later hBa) hr0 hr1 HO.out).mono ?_
          rintro e w2 ⟨rfl, hx⟩
          have n1 : w2.cell? ⟨wr.heap.size, 1, none⟩ = some (.int .i64 n.c) := by rw [blk_cell (blk_later hx (blk_new _ _))]; rfl
          replace hB := hBa.trans (hx.mono hBa.size)
          clear hx a0
          go_wp2_with (go_at_call 95; refine (wi_any _ _ _ _).mono ?_; rw [hfit]; rintro e w' ⟨rfl, rfl⟩)
          go_ret
          exact ⟨ret_bo HN.out.symm, hB⟩
        · have HF1 : Hid (∀ j, j < 2 + 1 → fitsB len f.d (rl n.op j) (fv n j) = true) := by
            intro j hj
            by_cases hjm : j = 2
            · subst hjm; rw [T2.out] at hfit; exact hfit
            · exact HF.out j (by omega)
          clear HF
          go_wp2_with fail
          refine (bounds_any q2 b off len cap p f _ l2 hpl hlen (HC.out.later hBa) hr0 hr1 HO.out).mono ?_
          rintro e w2 ⟨rfl, hx⟩
          have n1 : w2.cell? ⟨wr.heap.size, 1, none⟩ = some (.int .i64 n.c) := by rw [blk_cell (blk_later hx (blk_new _ _))]; rfl
          replace hB := hBa.trans (hx.mono hBa.size)
          replace B0 : Hid _ := blk_later hx B0a.out
          clear hx a0
          go_wp2_with (go_at_call 95; refine (wi_any _ _ _ _).mono ?_; rw [hfit]; rintro e w' ⟨rfl, rfl⟩)
          go_roundw
          case rel => exact ⟨2 + 1, by omega, by go_num, hB, B0, HF1⟩
          case measure => simp [intOf]
      · have hy := bw1 wr (.cells #[.int .i64 q3, .int .i64 n.d] 195)
        have a0 : (wr.alloc (.cells #[.int .i64 q3, .int .i64 n.d] 195)).cell? ⟨w.heap.size, 0, none⟩ = some (.slice (some ⟨b, off, none⟩) len cap) := by rw [blk_cell (blk_later hy B0.out)]; rfl
        have hix := idx4_3 (.int .i64 q0) (.int .i64 n.a) (.int .i64 q1) (.int .i64 n.b) (.int .i64 q2) (.int .i64 n.c) (.int .i64 q3) (.int .i64 n.d)
        have hBa := hB.trans (hy.mono hB.size)
        have B0a : Hid _ := blk_later hy B0.out
        cases hfit : inR n.d (lohi len f.d (conv q3)).1 (lohi len f.d (conv q3)).2
        · have HN : Hid (fieldsB len f.d n = false) := fields_not (j := 3) (by omega) (by rw [T3.out] at hfit; exact hfit)
          go_wp2_with fail
          refine (bounds_any q3 b off len cap p f _ l3 hpl hlen (HC.out.later hBa) hr0 hr1 HO.out).mono ?_
          rintro e w2 ⟨rfl, hx⟩
          have n1 : w2.cell? ⟨wr.heap.size, 1, none⟩ = some (.int .i64 n.d) := by rw [blk_cell (blk_later hx (blk_new _ _))]; rfl
          replace hB := hBa.trans (hx.mono hBa.size)
          clear hx a0
          go_wp2_with (go_at_call 95; refine (wi_any _ _ _ _).mono ?_; rw [hfit]; rintro e w' ⟨rfl, rfl⟩)
          go_ret
          exact ⟨ret_bo HN.out.symm, hB⟩
        · have HF1 : Hid (∀ j, j < 3 + 1 → fitsB len f.d (rl n.op j) (fv n j) = true) := by
            intro j hj
            by_cases hjm : j = 3
            · subst hjm; rw [T3.out] at hfit; exact hfit
            · exact HF.out j (by omega)
          clear HF
          go_wp2_with fail
          refine (bounds_any q3 b off len cap p f _ l3 hpl hlen (HC.out.later hBa) hr0 hr1 HO.out).mono ?_
          rintro e w2 ⟨rfl, hx⟩
          have n1 : w2.cell? ⟨wr.heap.size, 1, none⟩ = some (.int .i64 n.d) := by rw [blk_cell (blk_later hx (blk_new _ _))]; rfl
          replace hB := hBa.trans (hx.mono hBa.size)
          replace B0 : Hid _ := blk_later hx B0a.out
          clear hx a0
          go_wp2_with (go_at_call 95; refine (wi_any _ _ _ _).mono ?_; rw [hfit]; rintro e w' ⟨rfl, rfl⟩)
          go_roundw
          case rel => exact ⟨3 + 1, by omega, by go_num, hB, B0, HF1⟩
          case measure => simp [intOf]
    · have hm4 : m = 4 := by omega
      subst hm4
      have HR : Hid (fieldsB len f.d n = true) := fields_all h0 h1 HF.out
      clear HF
      go_wp2_with fail
      go_ret
      exact ⟨ret_bo HR.out.symm, hB⟩
end Go.Proofs.YtfkeklndcjkgcaaGreatDoor
