/-
  OWN WORK. The program's shape: consts, names, ups, sizes.
-/
import Derived.Test.YtmicnjphlakoaaaGreatDoorCImA
namespace Go.Proofs.YtmicnjphlakoaaaGreatDoor
open Go.RowKit
attribute [local go_sem] run_store_float
set_option linter.unusedVariables false
set_option linter.unusedSimpArgs false

set_option maxRecDepth 20000 in
set_option maxHeartbeats 1000000 in
theorem iconst_any (v : VD) (w : World) (ok : v.ok) :
    Calls Tryz.prog 52 #[VVd v] w fun e w' => e = .returned (.bool (constB v)) ∧ Below w.heap.size w w' := by
  obtain ⟨k, n, f, s, r⟩ := v
  obtain ⟨okf, oks⟩ := ok
  show Calls Tryz.prog 52 #[VV k n f s r] w fun e w' => e = .returned (.bool (constB ⟨k, n, f, s, r⟩)) ∧ Below w.heap.size w w'
  simp only at okf oks
  by_cases h5 : k = 5 ∨ k = 6 ∨ k = 7
  · rcases h5 with rfl | rfl | rfl
    all_goals
      go_enter Tryz.func52, Tryz.ntmps52
      go_wp2_with fail
      go_ret
      exact ⟨ret_bo (by simp [constB]), bw1 _ _⟩
  · have h5a : ¬ k = 5 := fun h => h5 (.inl h)
    have h5b : ¬ k = 6 := fun h => h5 (.inr (.inl h))
    have h5c : ¬ k = 7 := fun h => h5 (.inr (.inr h))
    clear h5
    have b5 : (k == 5) = false := by simpa using h5a
    have b6 : (k == 6) = false := by simpa using h5b
    have b7 : (k == 7) = false := by simpa using h5c
    cases hv : vok k n f s r
    · by_cases h3 : k = 3
      · subst h3
        go_enter Tryz.func52, Tryz.ntmps52
        go_wp2_with (go_at_call 71; refine (iok_any _ _ _ _ _ _).mono ?_; rw [hv]; rintro e w' ⟨rfl, hb'⟩; obtain ⟨hb, c0, c1, c2, c3, c4⟩ := box5 hb'; clear hb')
        go_ret
        exact ⟨ret_bo (by simp [constB, hv]), hb⟩
      · have b3 : (k == 3) = false := by simpa using h3
        go_enter Tryz.func52, Tryz.ntmps52
        go_wp2_with (go_at_call 71; refine (iok_any _ _ _ _ _ _).mono ?_; rw [hv]; rintro e w' ⟨rfl, hb'⟩; obtain ⟨hb, c0, c1, c2, c3, c4⟩ := box5 hb'; clear hb')
        go_ret
        exact ⟨ret_bo (by simp [constB, hv]), hb⟩
    · by_cases h3 : k = 3
      · subst h3
        go_enter Tryz.func52, Tryz.ntmps52
        go_wp2_with (first | (go_at_call 71; refine (iok_any _ _ _ _ _ _).mono ?_; rw [hv]; rintro e w' ⟨rfl, hb'⟩; obtain ⟨hb, c0, c1, c2, c3, c4⟩ := box5 hb'; clear hb') | (go_at_call 72; refine (isnan_any _ _).mono ?_; rintro e w' ⟨rfl, rfl⟩))
        go_ret
        exact ⟨ret_bo (by simp [constB, hv]), hb⟩
      · have b3 : (k == 3) = false := by simpa using h3
        rcases fz_two f okf (vok_fz (v := ⟨k, n, f, s, r⟩) hv h3) with rfl | rfl
        · go_enter Tryz.func52, Tryz.ntmps52
          go_wp2_with (first | (go_at_call 71; refine (iok_any _ _ _ _ _ _).mono ?_; rw [hv]; rintro e w' ⟨rfl, hb'⟩; obtain ⟨hb, c0, c1, c2, c3, c4⟩ := box5 hb'; clear hb') | (go_at_call 73; refine (signbit0 _).mono ?_; rintro e w' ⟨rfl, rfl⟩))
          go_ret
          exact ⟨ret_bo (by simp [constB, hv, h3, h5a, h5b, h5c]), hb⟩
        · go_enter Tryz.func52, Tryz.ntmps52
          go_wp2_with (first | (go_at_call 71; refine (iok_any _ _ _ _ _ _).mono ?_; rw [hv]; rintro e w' ⟨rfl, hb'⟩; obtain ⟨hb, c0, c1, c2, c3, c4⟩ := box5 hb'; clear hb') | (go_at_call 73; refine (signbit1 _).mono ?_; rintro e w' ⟨rfl, rfl⟩))
          go_ret
          exact ⟨ret_bo (by simp [constB, hv, h3, h5a, h5b, h5c]), hb⟩

/-- A name is as it should be, but for its number. -/
def nam1 (f : FD) (n : ND) : Bool := inR n.s.size 1 40 && inR n.reg 0 (f.regs - 1) && inR n.fr 0 n.to && decide (n.to ≤ (f.ins.length : Int))
theorem named_nam {f : FD} {i : Nat} {n : ND} : namedB f i n = (decide ((i : Int) < 500) && nam1 f n) := by
  unfold namedB nam1 inR
  simp only [Bool.and_assoc]

set_option maxRecDepth 20000 in
set_option maxHeartbeats 4000000 in
theorem inamed_any (f : FC) (n : ND) (w : World) (hs : n.s.size ≤ maxLen) (ok : f.d.ok) (hr0 : 0 ≤ f.d.regs) (hr1 : f.d.regs ≤ 250) :
    Calls Tryz.prog 53 #[NV n, PV f] w fun e w' => e = .returned (.bool (nam1 f.d n)) ∧ Below w.heap.size w w' := by
  unfold maxLen at hs
  have li := ok.li
  clear ok
  cases h1 : inR n.s.size 1 40
  · go_enter Tryz.func53, Tryz.ntmps53
    go_wp2_with (go_at_call 50; refine (wi_any _ _ _ _).mono ?_; rw [h1]; rintro e w' ⟨rfl, rfl⟩)
    go_ret
    exact ⟨ret_bo (by simp [nam1, h1]), bw2 _ _ _⟩
  · cases h2 : inR n.reg 0 (f.d.regs - 1)
    · go_enter Tryz.func53, Tryz.ntmps53
      go_wp2_with (go_at_call 50; refine (wi_any _ _ _ _).mono ?_; (first | rw [h1] | rw [h2]); rintro e w' ⟨rfl, rfl⟩)
      go_ret
      exact ⟨ret_bo (by simp [nam1, h2]), bw2 _ _ _⟩
    · cases h3 : inR n.fr 0 n.to
      · go_enter Tryz.func53, Tryz.ntmps53
        go_wp2_with (go_at_call 50; refine (wi_any _ _ _ _).mono ?_; (first | rw [h1] | rw [h2] | rw [h3]); rintro e w' ⟨rfl, rfl⟩)
        go_ret
        exact ⟨ret_bo (by simp [nam1, h3]), bw2 _ _ _⟩
      · go_enter Tryz.func53, Tryz.ntmps53
        go_wp2_with (go_at_call 50; refine (wi_any _ _ _ _).mono ?_; (first | rw [h1] | rw [h2] | rw [h3]); rintro e w' ⟨rfl, rfl⟩)
        go_ret
        exact ⟨ret_bo (by simp [nam1, h1, h2, h3]), bw2 _ _ _⟩

set_option maxRecDepth 20000 in
set_option maxHeartbeats 4000000 in
theorem iups_any (a : Option Addr) (len cap : Nat) (us : List UD) (f : FC) (w : World) (hl : us.length = len) (hs : SlA w 2 UD.cells a us) (hlen : len ≤ 1048576) (ok : f.d.ok) (hr0 : 0 ≤ f.d.regs) (hr1 : f.d.regs ≤ 250) :
    Calls Tryz.prog 56 #[.slice a len cap, PV f] w fun e w' => e = .returned (.bool (upsB f.d us)) ∧ Below w.heap.size w w' := by
  have HS : Hid (SlA w 2 UD.cells a us) := hs
  have HL : Hid (us.length = len) := hl
  have lf := ok.lu
  clear hs hl ok
  go_enter Tryz.func56, Tryz.ntmps56
  go_wp2_with fail
  go_loopw [10] (fun i wr => ∃ m : Nat, m ≤ len ∧ i = .int .i64 m ∧ Below w.heap.size w wr ∧ Hid (wr.heap[w.heap.size]? = some (PO f)) ∧ Hid (∀ j u, j < m → us[j]? = some u → upB f.d u = true)) (fun i _ => len - (intOf i).toNat)
  case atStart => exact ⟨0, by omega, rfl, bw1 _ _, blk_new _ _, fun j u hj => absurd hj (Nat.not_lt_zero _)⟩
  case round =>
    obtain ⟨m, hm, rfl, hB, B0, HF⟩ := hrel
    by_cases k1 : m < len
    · obtain ⟨u, hu⟩ : ∃ u, us[m]? = some u := ⟨us[m]'(by rw [HL.out]; exact k1), by simp⟩
      obtain ⟨bu, ou, rfl, hbu, hcu⟩ := HS.out m u hu
      have d0 : wr.cell? ⟨bu, ou + m * 2, none⟩ = some (.bool u.l) := cell_later hB (hcu 0 _ rfl)
      have d1 : wr.cell? ⟨bu, ou + m * 2 + 1, none⟩ = some (.int .i64 u.i) := cell_later hB (hcu 1 _ rfl)
      have HN : Hid (upB f.d u = false → upsB f.d us = false) := upsB_not hu
      have HF1 : Hid (upB f.d u = true → ∀ j v, j < m + 1 → us[j]? = some v → upB f.d v = true) := by
        intro ht j v hj hv
        by_cases hjm : j = m
        · subst hjm; rw [hu] at hv; cases hv; exact ht
        · exact HF.out j v (by omega) hv
      clear HF hu hcu hbu
      obtain ⟨ul, ui⟩ := u
      simp only at d0 d1 HN HF1
      have hy := bw1 wr (.cells #[.bool ul, .int .i64 ui] 68)
      have p4 : (wr.alloc (.cells #[.bool ul, .int .i64 ui] 68)).cell? ⟨w.heap.size, 4, none⟩ = some (.int .i64 f.d.regs) := by rw [blk_cell (blk_later hy B0.out)]; rfl
      have p5 : (wr.alloc (.cells #[.bool ul, .int .i64 ui] 68)).cell? ⟨w.heap.size, 5, none⟩ = some (.slice f.au f.d.ups.length f.cu) := by rw [blk_cell (blk_later hy B0.out)]; rfl
      replace hB := hB.trans (hy.mono hB.size)
      replace B0 : Hid _ := blk_later hy B0.out
      clear hy
      cases ul
      · cases hin : inR ui 0 ((f.d.ups.length : Int) - 1)
        · have HR : Hid (upsB f.d us = false) := HN.out (by simp [upB, hin])
          go_wp2_with (go_at_call 50; refine (wi_any _ _ _ _).mono ?_; rw [hin]; rintro e w' ⟨rfl, rfl⟩)
          go_ret
          exact ⟨ret_bo HR.out.symm, hB⟩
        · have HF2 : Hid _ := HF1.out (by simp [upB, hin])
          go_wp2_with (go_at_call 50; refine (wi_any _ _ _ _).mono ?_; rw [hin]; rintro e w' ⟨rfl, rfl⟩)
          go_roundw
          case rel => exact ⟨m + 1, by omega, by go_num, hB, B0, HF2⟩
          case measure => simp [intOf]; omega
      · cases hin : inR ui 0 (f.d.regs - 1)
        · have HR : Hid (upsB f.d us = false) := HN.out (by simp [upB, hin])
          go_wp2_with (go_at_call 50; refine (wi_any _ _ _ _).mono ?_; rw [hin]; rintro e w' ⟨rfl, rfl⟩)
          go_ret
          exact ⟨ret_bo HR.out.symm, hB⟩
        · have HF2 : Hid _ := HF1.out (by simp [upB, hin])
          go_wp2_with (go_at_call 50; refine (wi_any _ _ _ _).mono ?_; rw [hin]; rintro e w' ⟨rfl, rfl⟩)
          go_roundw
          case rel => exact ⟨m + 1, by omega, by go_num, hB, B0, HF2⟩
          case measure => simp [intOf]; omega
    · have HR : Hid (upsB f.d us = true) := upsB_all fun j u hu => HF.out j u (by have := (List.getElem?_eq_some_iff.1 hu).1; have := HL.out; omega) hu
      clear HF
      go_wp2_with fail
      go_ret
      exact ⟨ret_bo HR.out.symm, hB⟩

set_option maxRecDepth 20000 in
set_option maxHeartbeats 4000000 in
theorem isize_any (a : Option Addr) (len cap : Nat) (xs : List FC) (w : World) (H0 : CodeAt w a xs) (hl : xs.length = len) (v : Bool) (hv : v = true ↔ ¬ badSize (xs.map FC.d)) :
    Calls Tryz.prog 26 #[.agg #[.slice a len cap]] w fun e w' => e = .returned (.bool v) ∧ Below w.heap.size w w' := by
  have hlen : len ≤ 1048576 := by rw [← hl]; exact H0.len
  have H : Hid (CodeAt w a xs) := H0
  have HL : Hid (xs.length = len) := hl
  have HV : Hid (v = true ↔ ¬ (len = 0 ∨ 200 < len ∨ 6000 < (xs.map fun x => x.d.ins.length).sum)) := by show _ ↔ _; rw [hv]; unfold badSize; rw [List.length_map, hl, total_eq]
  clear H0 hl hv
  by_cases hz : len = 0
  · have hv : v = false := by have h := HV.out; simp [hz] at h; exact h
    have hz' : ((len : Int) == 0) = true := by simp [hz]
    go_enter Tryz.func26, Tryz.ntmps26
    go_wp2_with fail
    go_ret
    exact ⟨ret_bo hv.symm, bw1 _ _⟩
  have hz' : ((len : Int) == 0) = false := by simpa using hz
  by_cases hz2 : 200 < len
  · have hv : v = false := by have h := HV.out; simp [hz2] at h; exact h
    go_enter Tryz.func26, Tryz.ntmps26
    go_wp2_with fail
    go_ret
    exact ⟨ret_bo hv.symm, bw1 _ _⟩
  go_enter Tryz.func26, Tryz.ntmps26
  go_wp2_with fail
  go_loopw [3, 19] (fun t i wr => ∃ (m s : Nat), m ≤ len ∧ i = .int .i64 m ∧ t = .int .i64 s ∧ s ≤ 1048576 ∧ Hid (s = ((xs.take m).map fun x => x.d.ins.length).sum) ∧ Below w.heap.size w wr) (fun _ i _ => len - (intOf i).toNat)
  case atStart => exact ⟨0, 0, Nat.zero_le _, rfl, rfl, by omega, rfl, bw1 _ _⟩
  case round =>
    obtain ⟨m, s, hm, rfl, rfl, hs, HS, hB⟩ := hrel
    by_cases k1 : m < len
    · obtain ⟨f, hf⟩ : ∃ f, xs[m]? = some f := ⟨xs[m]'(by rw [HL.out]; exact k1), by simp⟩
      obtain ⟨b, off, rfl, hb, hc⟩ := H.out.nine hf
      obtain ⟨c0, c1, c2, c3, c4, c5, c6, c7, c8⟩ := hc.later hB
      have hst : s + f.d.ins.length ≤ 1048576 := by
        have h1 := sum_take hf
        have h2 := sum_le (xs := xs) (m + 1)
        have h3 := H.out.all
        have h4 := HS.out
        omega
      have HS1 : Hid (s + f.d.ins.length = ((xs.take (m + 1)).map fun x => x.d.ins.length).sum) := by show s + f.d.ins.length = _; rw [sum_take hf, ← HS.out]
      clear hf hc hb HS
      go_wp2_with fail
      go_roundw
      case rel => exact ⟨m + 1, s + f.d.ins.length, by omega, by go_num, by go_num, by omega, HS1, below_alloc hB _⟩
      case measure => simp [intOf]; omega
    · have HR : Hid (decide ((s : Int) ≤ 6000) = v) := by
        have h1 := HS.out
        rw [List.take_of_length_le (by rw [HL.out]; omega)] at h1
        have h2 := HV.out
        rw [← h1] at h2
        show decide ((s : Int) ≤ 6000) = v
        cases v
        · simp at h2 ⊢; omega
        · simp at h2 ⊢; omega
      clear HS
      go_wp2_with fail
      go_ret
      exact ⟨ret_bo HR.out, hB⟩
end Go.Proofs.YtmicnjphlakoaaaGreatDoor
