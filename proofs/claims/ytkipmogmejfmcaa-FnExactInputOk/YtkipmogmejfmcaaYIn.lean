/-
  OWN WORK. InputOk, of the specification and of the program.
-/
import Derived.Test.YtkipmogmejfmcaaYStr
namespace Go.Proofs.Ytkipmogmejfmcaa
open Go.RowKit
set_option linter.unusedVariables false

abbrev INV (a1 a2 : Option Addr) (n1 n2 c1 c2 : Nat) (t d c : Int) : Array Value := #[.slice a1 n1 c1, .slice a2 n2 c2, .int .i64 t, .int .i64 d, .int .i64 c]

set_option maxRecDepth 20000 in
set_option maxHeartbeats 4000000 in
theorem sin_any (a1 a2 : Option Addr) (n1 n2 c1 c2 : Nat) (xs ys : List ByteArray) (t d c : Int) (w : World) (h1 : xs.length = n1) (p1 : SlA w 1 SC a1 xs) (o1 : ∀ v ∈ xs, v.size ≤ maxLen) (l1 : n1 ≤ 1048576) (h2 : ys.length = n2) (p2 : SlA w 1 SC a2 ys) (o2 : ∀ v ∈ ys, v.size ≤ maxLen) (l2 : n2 ≤ 1048576) :
    Calls Try.prog 22 #[.agg (INV a1 a2 n1 n2 c1 c2 t d c)] w fun e w' => e = .returned (.bool (okV xs ys t d c)) ∧ Below w.heap.size w w' := by
  have P1 : Hid (SlA w 1 SC a1 xs) := p1
  have P2 : Hid (SlA w 1 SC a2 ys) := p2
  have L1 : Hid (xs.length = n1) := h1
  have L2 : Hid (ys.length = n2) := h2
  have O1 : Hid (∀ v ∈ xs, v.size ≤ maxLen) := o1
  have O2 : Hid (∀ v ∈ ys, v.size ≤ maxLen) := o2
  clear p1 p2 h1 h2 o1 o2
  obtain ⟨R, hR⟩ : ∃ R, R = okV xs ys t d c := ⟨_, rfl⟩
  have HR : Hid (R = okV xs ys t d c) := hR
  rw [← hR]
  clear hR
  by_cases g1 : 200 < n1
  · go_enter Try.func22, Try.ntmps22
    go_wp2_with fail
    go_ret
    exact ⟨by rw [HR.out]; unfold okV; rw [txV_long (by rw [L1.out]; exact g1)]; rfl, bw1 _ _⟩
  by_cases g2 : 200 < n2
  · go_enter Try.func22, Try.ntmps22
    go_wp2_with fail
    go_ret
    exact ⟨by rw [HR.out]; unfold okV; rw [txV_long (xs := ys) (by rw [L2.out]; exact g2), Bool.and_false]; rfl, bw1 _ _⟩
  go_enter Try.func22, Try.ntmps22
  go_wp2_with fail
  go_loopw [20] (fun i wr => ∃ (m : Nat), m ≤ n1 ∧ i = .int .i64 m ∧ Hid (∀ (i : Nat) (x : ByteArray), i < m → xs[i]? = some x → x.size ≤ 4000) ∧ Hid (Below (w.alloc (.cells (INV a1 a2 n1 n2 c1 c2 t d c) 35)).heap.size (w.alloc (.cells (INV a1 a2 n1 n2 c1 c2 t d c) 35)) wr)) (fun i _ => n1 - (intOf i).toNat)
  case atStart => exact ⟨0, Nat.zero_le _, rfl, fun i x h => absurd h (Nat.not_lt_zero _), Below.refl _ _⟩
  case round =>
    obtain ⟨m, hm, rfl, HS, HB⟩ := hrel
    by_cases k1 : m < n1
    · obtain ⟨x, hx⟩ : ∃ x, xs[m]? = some x := ⟨xs[m]'(by rw [L1.out]; exact k1), by simp⟩
      obtain ⟨b, off, rfl, hb, hc⟩ := sc_cell P1.out hx
      have c0 : wr.cell? ⟨b, off + m, none⟩ = some (.string x) := cell_later ((bw1 _ _).trans (HB.out.mono (by simp))) hc
      have hok := O1.out x (List.mem_of_getElem? hx)
      unfold maxLen at hok
      have HX : Hid (xs[m]? = some x) := hx
      clear hx hc hb
      by_cases g3 : 4000 < x.size
      · go_wp2_with fail
        go_ret
        exact ⟨by rw [HR.out]; unfold okV; rw [txV_at HX.out g3]; rfl, (bw1 _ _).trans (HB.out.mono (by simp))⟩
      · go_wp2_with fail
        go_roundw
        case rel =>
          refine ⟨m + 1, by omega, by go_num, ?_, HB⟩
          intro i y hi hy
          by_cases he : i = m
          · subst he
            have := HX.out
            rw [this] at hy
            cases hy
            omega
          · exact HS.out i y (by omega) hy
        case measure => simp [intOf]; omega
    · have T1 : Hid (txV xs = true) := txV_ok (by rw [L1.out]; omega) fun i x hi => HS.out i x (by have := (List.getElem?_eq_some_iff.1 hi).1; rw [L1.out] at this; omega) hi
      have e0 : wr.cell? ⟨w.heap.size, 1, none⟩ = some (.slice a2 n2 c2) := by rw [HB.out.cell (by simp)]; simp [go_sem]
      go_wp2_with fail
      clear e0 HS
      have HB0 := HB
      clear HB
      go_loopw [31] (fun i wr => ∃ (m : Nat), m ≤ n2 ∧ i = .int .i64 m ∧ Hid (∀ (i : Nat) (x : ByteArray), i < m → ys[i]? = some x → x.size ≤ 4000) ∧ Hid (Below (w.alloc (.cells (INV a1 a2 n1 n2 c1 c2 t d c) 35)).heap.size (w.alloc (.cells (INV a1 a2 n1 n2 c1 c2 t d c) 35)) wr)) (fun i _ => n2 - (intOf i).toNat)
      case atStart => exact ⟨0, Nat.zero_le _, rfl, fun i x h => absurd h (Nat.not_lt_zero _), HB0⟩
      case round =>
        obtain ⟨q, hq, rfl, HS, HB⟩ := hrel
        by_cases k2 : q < n2
        · obtain ⟨x, hx⟩ : ∃ x, ys[q]? = some x := ⟨ys[q]'(by rw [L2.out]; exact k2), by simp⟩
          obtain ⟨b, off, rfl, hb, hc⟩ := sc_cell P2.out hx
          have c0 := cell_later ((bw1 _ _).trans (HB.out.mono (by simp))) hc
          have hok := O2.out x (List.mem_of_getElem? hx)
          unfold maxLen at hok
          have HX : Hid (ys[q]? = some x) := hx
          clear hx hc hb
          by_cases g3 : 4000 < x.size
          · go_wp2_with fail
            go_ret
            exact ⟨by rw [HR.out]; unfold okV; rw [txV_at HX.out g3, Bool.and_false]; rfl, (bw1 _ _).trans (HB.out.mono (by simp))⟩
          · go_wp2_with fail
            go_roundw
            case rel =>
              refine ⟨q + 1, by omega, by go_num, ?_, HB⟩
              intro i y hi hy
              by_cases he : i = q
              · subst he
                have := HX.out
                rw [this] at hy
                cases hy
                omega
              · exact HS.out i y (by omega) hy
            case measure => simp [intOf]; omega
        · have T2 : Hid (txV ys = true) := txV_ok (by rw [L2.out]; omega) fun i x hi => HS.out i x (by have := (List.getElem?_eq_some_iff.1 hi).1; rw [L2.out] at this; omega) hi
          have hB := (bw1 _ _).trans (HB.out.mono (by simp))
          have e2 := HB.out.cell (p := ⟨w.heap.size, 2, none⟩) (by simp)
          have e3 := HB.out.cell (p := ⟨w.heap.size, 3, none⟩) (by simp)
          have e4 := HB.out.cell (p := ⟨w.heap.size, 4, none⟩) (by simp)
          simp [go_sem] at e2 e3 e4
          have HRR : Hid (R = (decide (0 ≤ t) && decide (t ≤ 5000) && decide (1 ≤ d) && decide (d ≤ 60) && decide (0 ≤ c) && decide (c ≤ 20000))) := by
            show R = _
            rw [HR.out]; unfold okV; rw [T1.out, T2.out]; simp only [Bool.true_and, Bool.and_true]
          clear HS T1 T2 HB HR
          by_cases q1 : 0 ≤ t
          · by_cases q2 : t ≤ 5000
            · by_cases q3 : 1 ≤ d
              · by_cases q4 : d ≤ 60
                · by_cases q5 : 0 ≤ c
                  · by_cases q6 : c ≤ 20000
                    · go_wp2_with fail
                      go_ret
                      exact ⟨by rw [HRR.out]; simp <;> (intros; omega), hB⟩
                    · go_wp2_with fail
                      go_ret
                      exact ⟨by rw [HRR.out]; simp <;> (intros; omega), hB⟩
                  · go_wp2_with fail
                    go_ret
                    exact ⟨by rw [HRR.out]; simp <;> (intros; omega), hB⟩
                · go_wp2_with fail
                  go_ret
                  exact ⟨by rw [HRR.out]; simp <;> (intros; omega), hB⟩
              · go_wp2_with fail
                go_ret
                exact ⟨by rw [HRR.out]; simp <;> (intros; omega), hB⟩
            · go_wp2_with fail
              go_ret
              exact ⟨by rw [HRR.out]; simp <;> (intros; omega), hB⟩
          · go_wp2_with fail
            go_ret
            exact ⟨by rw [HRR.out]; simp <;> (intros; omega), hB⟩

theorem long_any (x : ByteArray) (w : World) (hs : x.size ≤ maxLen) : Calls Try.prog 95 #[.string x] w fun e w' => e = .returned (.bool (decide (4000 < x.size))) ∧ Below w.heap.size w w' := by
  unfold maxLen at hs
  by_cases h : 4000 < x.size
  · go_enter Try.func95, Try.ntmps95
    go_wp2_with fail
    go_ret
    exact ⟨by simp <;> omega, Below.refl _ _⟩
  · go_enter Try.func95, Try.ntmps95
    go_wp2_with fail
    go_ret
    exact ⟨by simp <;> omega, Below.refl _ _⟩

/-- Where the first text that is too long stands. -/
def LongAt (xs : List ByteArray) (r : Int) : Prop := (r = -1 ∧ ∀ (i : Nat) (x : ByteArray), xs[i]? = some x → x.size ≤ 4000) ∨ ∃ (m : Nat) (x : ByteArray), r = (m : Int) ∧ xs[m]? = some x ∧ 4000 < x.size

set_option maxRecDepth 20000 in
set_option maxHeartbeats 4000000 in
theorem idx_any (a : Option Addr) (len cap : Nat) (xs : List ByteArray) (w : World) (hl : xs.length = len) (hp : SlA w 1 SC a xs) (ho : ∀ v ∈ xs, v.size ≤ maxLen) (hlen : len ≤ 1048576) :
    Calls Try.prog 116 #[.slice a len cap, .func (Fn.func 95) #[] #[]] w fun e w' => (∃ r, e = .returned (.int .i64 r) ∧ Hid (LongAt xs r) ∧ -1 ≤ r) ∧ Below w.heap.size w w' := by
  have HP : Hid (SlA w 1 SC a xs) := hp
  have HL : Hid (xs.length = len) := hl
  have HO : Hid (∀ v ∈ xs, v.size ≤ maxLen) := ho
  clear hp hl ho
  go_enter Try.func116, Try.ntmps116
  go_wp2_with fail
  go_loopw [8] (fun i wr => ∃ (m : Nat), m ≤ len ∧ i = .int .i64 m ∧ Hid (∀ (i : Nat) (x : ByteArray), i < m → xs[i]? = some x → x.size ≤ 4000) ∧ Hid (Below w.heap.size w wr)) (fun i _ => len - (intOf i).toNat)
  case atStart => exact ⟨0, Nat.zero_le _, rfl, fun i x h => absurd h (Nat.not_lt_zero _), Below.refl _ _⟩
  case round =>
    obtain ⟨m, hm, rfl, HS, HB⟩ := hrel
    by_cases k1 : m < len
    · obtain ⟨x, hx⟩ : ∃ x, xs[m]? = some x := ⟨xs[m]'(by rw [HL.out]; exact k1), by simp⟩
      obtain ⟨b, off, rfl, hb, hc⟩ := sc_cell HP.out hx
      have c0 := cell_later HB.out hc
      have hok := HO.out x (List.mem_of_getElem? hx)
      have HX : Hid (xs[m]? = some x) := hx
      clear hx hc hb
      go_wp2_with fail
      refine (long_any x _ hok).mono ?_
      rintro e w1 ⟨rfl, hx⟩
      have HB1 : Hid (Below w.heap.size w w1) := HB.out.trans (hx.mono HB.out.size)
      clear hx c0
      by_cases g3 : 4000 < x.size
      · rw [decide_eq_true g3]
        go_wp2_with fail
        go_ret
        exact ⟨⟨m, rfl, .inr ⟨m, x, rfl, HX.out, g3⟩, by omega⟩, HB1.out⟩
      · rw [decide_eq_false g3]
        go_wp2_with fail
        go_roundw
        case rel =>
          refine ⟨m + 1, by omega, by go_num, ?_, HB1⟩
          intro i y hi hy
          by_cases he : i = m
          · subst he
            have := HX.out
            rw [this] at hy
            cases hy
            omega
          · exact HS.out i y (by omega) hy
        case measure => simp [intOf]; omega
    · go_wp2_with fail
      go_ret
      exact ⟨⟨-1, rfl, .inl ⟨rfl, fun i x hi => HS.out i x (by have := (List.getElem?_eq_some_iff.1 hi).1; rw [HL.out] at this; omega) hi⟩, by omega⟩, HB.out⟩

set_option maxRecDepth 20000 in
set_option maxHeartbeats 1000000 in
theorem cont_any (a : Option Addr) (len cap : Nat) (xs : List ByteArray) (w : World) (hl : xs.length = len) (hp : SlA w 1 SC a xs) (ho : ∀ v ∈ xs, v.size ≤ maxLen) (hlen : len ≤ 200) :
    Calls Try.prog 94 #[.slice a len cap, .func (Fn.func 95) #[] #[]] w fun e w' => e = .returned (.bool (!txV xs)) ∧ Below w.heap.size w w' := by
  have I := idx_any a len cap xs w hl hp ho (by omega)
  go_enter Try.func94, Try.ntmps94
  go_wp2_with fail
  refine I.mono ?_
  rintro e w1 ⟨⟨r, rfl, hr, hr0⟩, hx⟩
  rcases hr.out with ⟨rfl, hs⟩ | ⟨m, x, rfl, hm, hs⟩
  · have hT : txV xs = true := txV_ok (by omega) hs
    go_wp2_with fail
    go_ret
    exact ⟨by rw [hT]; rfl, hx⟩
  · have hT : txV xs = false := txV_at hm hs
    go_wp2_with fail
    go_ret
    exact ⟨by rw [hT]; rfl, hx⟩

set_option maxRecDepth 20000 in
set_option maxHeartbeats 1000000 in
theorem itx_any (a : Option Addr) (len cap : Nat) (xs : List ByteArray) (w : World) (hl : xs.length = len) (hp : SlA w 1 SC a xs) (ho : ∀ v ∈ xs, v.size ≤ maxLen) (hlen : len ≤ 1048576) :
    Calls Try.prog 56 #[.slice a len cap] w fun e w' => e = .returned (.bool (txV xs)) ∧ Below w.heap.size w w' := by
  by_cases g : 200 < len
  · have hT : txV xs = false := txV_long (by omega)
    rw [hT]
    go_enter Try.func56, Try.ntmps56
    go_wp2_with fail
    go_ret
    exact ⟨rfl, Below.refl _ _⟩
  · have I := cont_any a len cap xs w hl hp ho (by omega)
    clear hl hp ho
    go_enter Try.func56, Try.ntmps56
    go_wp2_with fail
    refine I.mono ?_
    rintro e w1 ⟨rfl, hx⟩
    go_wp2_with fail
    go_ret
    exact ⟨by simp, hx⟩

theorem within_any (x a b : Int) (w : World) : Calls Try.prog 57 #[.int .i64 x, .int .i64 a, .int .i64 b] w fun e w' => e = .returned (.bool (decide (a ≤ x) && decide (x ≤ b))) ∧ Below w.heap.size w w' := by
  by_cases h1 : a ≤ x
  · by_cases h2 : x ≤ b
    · go_enter Try.func57, Try.ntmps57
      go_wp2_with fail
      go_ret
      exact ⟨by simp <;> (intros; omega), Below.refl _ _⟩
    · go_enter Try.func57, Try.ntmps57
      go_wp2_with fail
      go_ret
      exact ⟨by simp <;> (intros; omega), Below.refl _ _⟩
  · go_enter Try.func57, Try.ntmps57
    go_wp2_with fail
    go_ret
    exact ⟨by simp <;> (intros; omega), Below.refl _ _⟩
end Go.Proofs.Ytkipmogmejfmcaa
