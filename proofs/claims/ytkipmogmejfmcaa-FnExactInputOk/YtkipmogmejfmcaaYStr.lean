/-
  OWN WORK. Lists of texts: the laws' look at sizes, copies, sameness; what is asked of them.
-/
import Derived.Test.YtkipmogmejfmcaaCTo
import Derived.Deep.RegionWith
import Derived.Deep.QuietTactic
namespace Go.Proofs.Ytkipmogmejfmcaa
open Go.RowKit
set_option linter.unusedVariables false

abbrev SC (s : ByteArray) : List Value := [.string s]
theorem SC.len (x : ByteArray) : (SC x).length = 1 := rfl
theorem sc_cell {w : World} {a : Option Addr} {xs : List ByteArray} (h : SlA w 1 SC a xs) {m : Nat} {x : ByteArray} (hx : xs[m]? = some x) : ∃ b off, a = some ⟨b, off, none⟩ ∧ b < w.heap.size ∧ w.cell? ⟨b, off + m, none⟩ = some (.string x) := by
  obtain ⟨b, off, h1, h2, h3⟩ := h m x hx
  exact ⟨b, off, h1, h2, by simpa using h3 0 _ rfl⟩

set_option maxRecDepth 20000 in
set_option maxHeartbeats 1000000 in
theorem szs_any (a : Option Addr) (len cap : Nat) (xs : List ByteArray) (l : Int) (w : World) (hl : xs.length = len) (hp : SlA w 1 SC a xs) (hok : ∀ v ∈ xs, v.size ≤ maxLen) (hlm : len ≤ maxLen) (h0 : 0 ≤ l) (h1 : l ≤ 1048576) :
    Calls Try.prog 54 #[.slice a len cap, .int .i64 l] w fun e w' => (∃ r, e = .returned (.int .i64 r) ∧ (r = -1 ∨ (0 ≤ r ∧ r ≤ l - len))) ∧ Below w.heap.size w w' := by
  unfold maxLen at hlm
  have HP : Hid (SlA w 1 SC a xs) := hp
  have HL : Hid (xs.length = len) := hl
  have HO : Hid (∀ v ∈ xs, v.size ≤ maxLen) := hok
  clear hp hl hok
  by_cases g1 : l - len < 0
  · go_enter Try.func54, Try.ntmps54
    go_wp2_with fail
    go_ret
    exact ⟨⟨-1, rfl, .inl rfl⟩, Below.refl _ _⟩
  · go_enter Try.func54, Try.ntmps54
    go_wp2_with fail
    go_loopw [1, 5] (fun lf i wr => ∃ (m : Nat) (v : Int), m ≤ len ∧ i = .int .i64 m ∧ lf = .int .i64 v ∧ 0 ≤ v ∧ v ≤ l - len ∧ Below w.heap.size w wr) (fun _ i _ => len - (intOf i).toNat)
    case atStart => exact ⟨0, _, Nat.zero_le _, rfl, rfl, by omega, by omega, Below.refl _ _⟩
    case round =>
      obtain ⟨m, v, hm, rfl, rfl, hv0, hv1, hB⟩ := hrel
      by_cases k1 : m < len
      · obtain ⟨x, hx⟩ : ∃ x, xs[m]? = some x := ⟨xs[m]'(by rw [HL.out]; exact k1), by simp⟩
        obtain ⟨b, off, rfl, hb, hc⟩ := sc_cell HP.out hx
        have c0 : wr.cell? ⟨b, off + m, none⟩ = some (.string x) := cell_later hB hc
        have hok := HO.out x (List.mem_of_getElem? hx)
        unfold maxLen at hok
        clear hx hc hb
        by_cases g2 : v - x.size < 0
        · go_wp2_with fail
          go_ret
          exact ⟨⟨-1, rfl, .inl rfl⟩, hB⟩
        · go_wp2_with fail
          go_roundw
          case rel => exact ⟨m + 1, v - x.size, by omega, by go_num, rfl, by omega, by omega, hB⟩
          case measure => simp [intOf]; omega
      · go_wp2_with fail
        go_ret
        exact ⟨⟨v, rfl, .inr ⟨hv0, hv1⟩⟩, hB⟩

set_option maxRecDepth 20000 in
set_option maxHeartbeats 1000000 in
theorem toss_any (a : Option Addr) (len cap : Nat) (xs : List ByteArray) (w : World) (hl : xs.length = len) (hp : SlA w 1 SC a xs) (hlen : len ≤ 1048576) :
    Calls Try.prog 55 #[.slice a len cap] w fun e w' => e = .returned (.slice (some ⟨w.heap.size, 0, none⟩) len len) ∧ Below w.heap.size w w' ∧ RowG w' w.heap.size 1 9 SC xs := by
  obtain ⟨arr, hsz, hmk⟩ := make_of (P := Try.prog) 30 9 1 16 len Try.underlying30 (by kernel_rfl) (by omega) hlen w
  have HP : Hid (SlA w 1 SC a xs) := hp
  have HL : Hid (xs.length = len) := hl
  clear hp hl
  go_enter Try.func55, Try.ntmps55
  go_wp2_with fail
  clear hmk
  go_loopw [4] (fun i wr => ∃ (m : Nat) (ar : Array Value), m ≤ len ∧ i = .int .i64 m ∧ Below w.heap.size w wr ∧ Hid (wr.heap[w.heap.size]? = some (.cells ar 9)) ∧ ar.size = len * 1 ∧ Hid (ContG 1 SC xs ar m)) (fun i _ => len - (intOf i).toNat)
  case atStart => exact ⟨0, arr, Nat.zero_le _, rfl, bw1 _ _, blk_new _ _, hsz, contG_zero _ _ _ _⟩
  case round =>
    obtain ⟨m, ar, hm, rfl, hB, hA, hS, hC⟩ := hrel
    by_cases k1 : m < len
    · obtain ⟨x, hx⟩ : ∃ x, xs[m]? = some x := ⟨xs[m]'(by rw [HL.out]; exact k1), by simp⟩
      obtain ⟨b, off, rfl, hb, hc⟩ := sc_cell HP.out hx
      have c0 : wr.cell? ⟨b, off + m, none⟩ = some (.string x) := cell_later hB hc
      have HC : Hid (ContG 1 SC xs (putl ar (m * 1) (SC x)) (m + 1)) := contG_step SC.len hC.out hx hS k1
      have hA1 := hA.out
      clear hx hC hc hb
      obtain ⟨y0, e0⟩ : ∃ y, wr.cell? ⟨w.heap.size, m, none⟩ = some y := ⟨ar[m]'(by omega), by rw [blk_cell hA1]; simp⟩
      have z := blk_frozen hA1 m
      have HA1 : Hid (wr.heap[w.heap.size]? = some (.cells ar 9)) := hA1
      clear hA hA1
      go_wp2_with fail
      clear e0 z
      go_roundw
      case rel => exact ⟨m + 1, putl ar (m * 1) (SC x), by omega, by go_num, hB.setCell (p := ⟨w.heap.size, m, none⟩) (Nat.le_refl _) (.string x), by rw [Nat.mul_one]; exact blk_set HA1.out m (.string x), by rw [putl_size]; exact hS, HC⟩
      case measure => simp [intOf]; omega
    · have hml : m = len := by omega
      have HC : Hid (ContG 1 SC xs ar len) := by have := hC.out; rw [hml] at this; exact this
      clear hC hml
      go_wp2_with fail
      go_ret
      exact ⟨rfl, hB, ar, hA.out, by rw [HL.out]; exact hS, by rw [HL.out]; exact HC.out⟩

set_option maxRecDepth 20000 in
set_option maxHeartbeats 1000000 in
theorem eqss_any (a a' : Option Addr) (cap cap' len : Nat) (xs : List ByteArray) (w : World) (hl : xs.length = len) (hp : SlA w 1 SC a xs) (hp' : SlA w 1 SC a' xs) (hlen : len ≤ 1048576) :
    Calls Try.prog 58 #[.slice a len cap, .slice a' len cap'] w fun e w' => e = .returned (.bool true) ∧ Below w.heap.size w w' := by
  have HP : Hid (SlA w 1 SC a xs) := hp
  have HP' : Hid (SlA w 1 SC a' xs) := hp'
  have HL : Hid (xs.length = len) := hl
  clear hp hp' hl
  go_enter Try.func58, Try.ntmps58
  go_wp2_with fail
  go_loopw [5] (fun i wr => ∃ m : Nat, m ≤ len ∧ i = .int .i64 m ∧ Below w.heap.size w wr) (fun i _ => len - (intOf i).toNat)
  case atStart => exact ⟨0, Nat.zero_le _, rfl, Below.refl _ _⟩
  case round =>
    obtain ⟨m, hm, rfl, hB⟩ := hrel
    by_cases k1 : m < len
    · obtain ⟨x, hx⟩ : ∃ x, xs[m]? = some x := ⟨xs[m]'(by rw [HL.out]; exact k1), by simp⟩
      obtain ⟨b, off, rfl, hb, hc⟩ := sc_cell HP.out hx
      obtain ⟨b', off', rfl, hb', hc'⟩ := sc_cell HP'.out hx
      have c0 : wr.cell? ⟨b, off + m, none⟩ = some (.string x) := cell_later hB hc
      have d0 : wr.cell? ⟨b', off' + m, none⟩ = some (.string x) := cell_later hB hc'
      clear hx hc hc' hb hb'
      go_wp2_with fail
      go_region
      go_wp2_with fail
      go_roundw
      case rel => exact ⟨m + 1, by omega, by go_num, hB.trans (((Below.refl _ _).drew).mono hB.size)⟩
      case measure => simp [intOf]; omega
    · go_wp2_with fail
      go_ret
      exact ⟨rfl, hB⟩

/-- A list of texts that an input may have. -/
def txV (xs : List ByteArray) : Bool := decide (xs.length ≤ 200) && xs.all (fun s => decide (s.size ≤ 4000))
theorem txV_long {xs : List ByteArray} (h : 200 < xs.length) : txV xs = false := by unfold txV; rw [decide_eq_false (by omega)]; rfl
theorem txV_at {xs : List ByteArray} {m : Nat} {x : ByteArray} (hx : xs[m]? = some x) (h : 4000 < x.size) : txV xs = false := by
  unfold txV
  rw [Bool.and_eq_false_iff]
  refine .inr (List.all_eq_false.2 ⟨x, List.mem_of_getElem? hx, by simp; omega⟩)
theorem txV_ok {xs : List ByteArray} (h : xs.length ≤ 200) (hs : ∀ (i : Nat) (x : ByteArray), xs[i]? = some x → x.size ≤ 4000) : txV xs = true := by
  unfold txV
  rw [decide_eq_true h, Bool.true_and, List.all_eq_true]
  intro x hx
  obtain ⟨i, hi⟩ := List.getElem?_of_mem hx
  exact decide_eq_true (hs i x hi)
def okV (xs ys : List ByteArray) (t d c : Int) : Bool := txV xs && txV ys && decide (0 ≤ t) && decide (t ≤ 5000) && decide (1 ≤ d) && decide (d ≤ 60) && decide (0 ≤ c) && decide (c ≤ 20000)
end Go.Proofs.Ytkipmogmejfmcaa
