/-
  OWN WORK. Tables: the laws' look at sizes.
-/
import Derived.Test.YtkipmogmejfmcaaTabOk
import Derived.Test.YtkipmogmejfmcaaSz
namespace Go.Proofs.Ytkipmogmejfmcaa
open Go.RowKit
attribute [local go_sem] run_store_float
set_option linter.unusedVariables false

/-- A pair, as a value. -/
abbrev PVal (p : PD) : Value := .agg #[.int .i64 p.key.k, .int .i64 p.key.n, .float .f64 p.key.f, .string p.key.s, .int .i64 p.key.r, .int .i64 p.val.k, .int .i64 p.val.n, .float .f64 p.val.f, .string p.val.s, .int .i64 p.val.r, .int .i64 p.turn]

/-- What a size look answers: below nought, or what is left. -/
def Left (l r : Int) : Prop := r = -1 ∨ (0 ≤ r ∧ r ≤ l)

set_option maxRecDepth 20000 in
set_option maxHeartbeats 400000 in
theorem szp_any (p : PD) (l : Int) (w : World) (hk : p.key.ok) (hv : p.val.ok) (h0 : 0 ≤ l) (h1 : l ≤ 1048576) :
    Calls Try.prog 104 #[PVal p, .int .i64 l] w fun e w' => (∃ r, e = .returned (.int .i64 r) ∧ Left l r) ∧ Below w.heap.size w w' := by
  by_cases g1 : l - p.key.s.size < 0
  · go_enter Try.func104, Try.ntmps104
    go_wp2_with fail
    refine (sz_no _ _ _ _ _ _ _ hk.2 h0 h1 g1).mono ?_
    rintro e w1 ⟨rfl, hx⟩
    obtain ⟨hb, d0, d1, d2, d3, d4, d5, d6, d7, d8, d9, d10⟩ := box11 hx
    go_wp2_with fail
    go_ret
    exact ⟨⟨-1, rfl, .inl rfl⟩, hb⟩
  · by_cases g2 : l - p.key.s.size - p.val.s.size < 0
    · go_enter Try.func104, Try.ntmps104
      go_wp2_with fail
      refine (sz_ok _ _ _ _ _ _ _ hk.2 h1 (by omega)).mono ?_
      rintro e w1 ⟨rfl, hx⟩
      obtain ⟨hb, d0, d1, d2, d3, d4, d5, d6, d7, d8, d9, d10⟩ := box11 hx
      clear hx
      go_wp2_with fail
      refine (sz_no _ _ _ _ _ _ _ hv.2 (by omega) (by omega) (by omega)).mono ?_
      rintro e w2 ⟨rfl, hx⟩
      replace hb := hb.trans (hx.mono hb.size)
      go_wp2_with fail
      go_ret
      exact ⟨⟨-1, rfl, .inl rfl⟩, hb⟩
    · go_enter Try.func104, Try.ntmps104
      go_wp2_with fail
      refine (sz_ok _ _ _ _ _ _ _ hk.2 h1 (by omega)).mono ?_
      rintro e w1 ⟨rfl, hx⟩
      obtain ⟨hb, d0, d1, d2, d3, d4, d5, d6, d7, d8, d9, d10⟩ := box11 hx
      clear hx
      go_wp2_with fail
      refine (sz_ok _ _ _ _ _ _ _ hv.2 (by omega) (by omega)).mono ?_
      rintro e w2 ⟨rfl, hx⟩
      replace hb := hb.trans (hx.mono hb.size)
      go_wp2_with fail
      go_ret
      exact ⟨⟨_, rfl, .inr ⟨by omega, by omega⟩⟩, hb⟩

set_option maxRecDepth 20000 in
set_option maxHeartbeats 1000000 in
theorem szs_some (b off len cap : Nat) (ps : List PD) (l : Int) (w : World) (hl : ps.length = len) (hp : PAt w b off ps) (hok : ∀ p ∈ ps, p.ok) (hlm : len ≤ maxLen) (h0 : 0 ≤ l) (h1 : l ≤ 1048576) :
    Calls Try.prog 76 #[.slice (some ⟨b, off, none⟩) len cap, .int .i64 l] w fun e w' => (∃ r, e = .returned (.int .i64 r) ∧ (r = -1 ∨ (0 ≤ r ∧ r ≤ l - len))) ∧ Below w.heap.size w w' := by
  unfold maxLen at hlm
  have HP : Hid (PAt w b off ps) := hp
  have HO : Hid (∀ p ∈ ps, p.ok) := hok
  clear hp hok
  by_cases g1 : l - len < 0
  · go_enter Try.func76, Try.ntmps76
    go_wp2_with fail
    go_ret
    exact ⟨⟨-1, rfl, .inl rfl⟩, Below.refl _ _⟩
  · go_enter Try.func76, Try.ntmps76
    go_wp2_with fail
    go_loopw [1, 5] (fun lf i wr => ∃ (m : Nat) (v : Int), m ≤ len ∧ i = .int .i64 m ∧ lf = .int .i64 v ∧ 0 ≤ v ∧ v ≤ l - len ∧ Below w.heap.size w wr) (fun _ i _ => len - (intOf i).toNat)
    case atStart => exact ⟨0, _, Nat.zero_le _, rfl, rfl, by omega, by omega, Below.refl _ _⟩
    case round =>
      obtain ⟨m, v, hm, rfl, rfl, hv0, hv1, hB⟩ := hrel
      by_cases k1 : m < len
      · obtain ⟨p, hpm⟩ : ∃ p, ps[m]? = some p := ⟨ps[m]'(by omega), by simp⟩
        have c0 : wr.cell? ⟨b, off + m * 11, none⟩ = some (.int .i64 p.key.k) := cell_later hB (HP.out m p hpm 0 _ rfl)
        have c1 : wr.cell? ⟨b, off + m * 11 + 1, none⟩ = some (.int .i64 p.key.n) := cell_later hB (HP.out m p hpm 1 _ rfl)
        have c2 : wr.cell? ⟨b, off + m * 11 + 2, none⟩ = some (.float .f64 p.key.f) := cell_later hB (HP.out m p hpm 2 _ rfl)
        have c3 : wr.cell? ⟨b, off + m * 11 + 3, none⟩ = some (.string p.key.s) := cell_later hB (HP.out m p hpm 3 _ rfl)
        have c4 : wr.cell? ⟨b, off + m * 11 + 4, none⟩ = some (.int .i64 p.key.r) := cell_later hB (HP.out m p hpm 4 _ rfl)
        have c5 : wr.cell? ⟨b, off + m * 11 + 5, none⟩ = some (.int .i64 p.val.k) := cell_later hB (HP.out m p hpm 5 _ rfl)
        have c6 : wr.cell? ⟨b, off + m * 11 + 6, none⟩ = some (.int .i64 p.val.n) := cell_later hB (HP.out m p hpm 6 _ rfl)
        have c7 : wr.cell? ⟨b, off + m * 11 + 7, none⟩ = some (.float .f64 p.val.f) := cell_later hB (HP.out m p hpm 7 _ rfl)
        have c8 : wr.cell? ⟨b, off + m * 11 + 8, none⟩ = some (.string p.val.s) := cell_later hB (HP.out m p hpm 8 _ rfl)
        have c9 : wr.cell? ⟨b, off + m * 11 + 9, none⟩ = some (.int .i64 p.val.r) := cell_later hB (HP.out m p hpm 9 _ rfl)
        have c10 : wr.cell? ⟨b, off + m * 11 + 10, none⟩ = some (.int .i64 p.turn) := cell_later hB (HP.out m p hpm 10 _ rfl)
        obtain ⟨hpk, hpv, _, _⟩ := HO.out p (List.mem_of_getElem? hpm)
        clear hpm
        go_wp2_with fail
        refine (szp_any p v _ hpk hpv hv0 (by omega)).mono ?_
        rintro e w1 ⟨⟨r, rfl, hr⟩, hx⟩
        replace hB := hB.trans (hx.mono hB.size)
        clear hx c0 c1 c2 c3 c4 c5 c6 c7 c8 c9 c10
        rcases hr with rfl | ⟨hr0, hr1⟩
        · go_wp2_with fail
          go_ret
          exact ⟨⟨-1, rfl, .inl rfl⟩, hB⟩
        · go_wp2_with fail
          go_roundw
          case rel => exact ⟨m + 1, r, by omega, by go_num, rfl, by omega, by omega, hB⟩
          case measure => simp [intOf]; omega
      · go_wp2_with fail
        go_ret
        exact ⟨⟨v, rfl, .inr ⟨hv0, hv1⟩⟩, hB⟩

set_option maxRecDepth 20000 in
set_option maxHeartbeats 400000 in
theorem szs_nil (l : Int) (w : World) (h0 : 0 ≤ l) (h1 : l ≤ 1048576) :
    Calls Try.prog 76 #[.slice none 0 0, .int .i64 l] w fun e w' => (∃ r, e = .returned (.int .i64 r) ∧ (r = -1 ∨ (0 ≤ r ∧ r ≤ l - (0 : Nat)))) ∧ Below w.heap.size w w' := by
  go_enter Try.func76, Try.ntmps76
  go_wp2_with fail
  refine wp_loop_rounds 1 ?_
  rw [rounds_succ]
  go_wp2_with fail
  go_ret
  exact ⟨⟨_, rfl, .inr ⟨by omega, by omega⟩⟩, Below.refl _ _⟩
end Go.Proofs.Ytkipmogmejfmcaa
