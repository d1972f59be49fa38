/-
  OWN WORK. Codes: the laws' look at sizes of lists.
-/
import Derived.Test.YtmicnjphlakoaaaGreatDoorCTo
import Derived.Test.YtmicnjphlakoaaaGreatDoorSz
namespace Go.Proofs.YtmicnjphlakoaaaGreatDoor
open Go.RowKit
attribute [local go_sem] run_store_float
set_option linter.unusedVariables false


set_option maxHeartbeats 400000 in
theorem szus_any (a : Option Addr) (len cap : Nat) (l : Int) (w : World) (hlm : len ≤ maxLen) (h0 : 0 ≤ l) (h1 : l ≤ 1048576) :
    Calls Tryz.prog 34 #[.slice a len cap, .int .i64 l] w fun e w' => (∃ r, e = .returned (.int .i64 r) ∧ (r = -1 ∨ (0 ≤ r ∧ r ≤ l - len))) ∧ Below w.heap.size w w' := by
  unfold maxLen at hlm
  by_cases g1 : l - len < 0
  · go_enter Tryz.func34, Tryz.ntmps34
    go_wp2_with fail
    go_ret
    exact ⟨⟨-1, rfl, .inl rfl⟩, Below.refl _ _⟩
  · go_enter Tryz.func34, Tryz.ntmps34
    go_wp2_with fail
    go_ret
    exact ⟨⟨_, rfl, .inr ⟨by omega, by omega⟩⟩, Below.refl _ _⟩

set_option maxHeartbeats 400000 in
theorem szis_any (a : Option Addr) (len cap : Nat) (l : Int) (w : World) (hlm : len ≤ maxLen) (h0 : 0 ≤ l) (h1 : l ≤ 1048576) :
    Calls Tryz.prog 36 #[.slice a len cap, .int .i64 l] w fun e w' => (∃ r, e = .returned (.int .i64 r) ∧ (r = -1 ∨ (0 ≤ r ∧ r ≤ l - len))) ∧ Below w.heap.size w w' := by
  unfold maxLen at hlm
  by_cases g1 : l - len < 0
  · go_enter Tryz.func36, Tryz.ntmps36
    go_wp2_with fail
    go_ret
    exact ⟨⟨-1, rfl, .inl rfl⟩, Below.refl _ _⟩
  · go_enter Tryz.func36, Tryz.ntmps36
    go_wp2_with fail
    go_ret
    exact ⟨⟨_, rfl, .inr ⟨by omega, by omega⟩⟩, Below.refl _ _⟩

set_option maxHeartbeats 400000 in
theorem szn_any (x : ND) (l : Int) (w : World) (hs : x.s.size ≤ maxLen) (h0 : 0 ≤ l) (h1 : l ≤ 1048576) :
    Calls Tryz.prog 62 #[NV x, .int .i64 l] w fun e w' => (∃ r, e = .returned (.int .i64 r) ∧ (r = -1 ∨ (0 ≤ r ∧ r ≤ l))) ∧ Below w.heap.size w w' := by
  unfold maxLen at hs
  by_cases g1 : l - x.s.size < 0
  · go_enter Tryz.func62, Tryz.ntmps62
    go_wp2_with fail
    go_ret
    exact ⟨⟨-1, rfl, .inl rfl⟩, bw1 _ _⟩
  · go_enter Tryz.func62, Tryz.ntmps62
    go_wp2_with fail
    go_ret
    exact ⟨⟨_, rfl, .inr ⟨by omega, by omega⟩⟩, bw1 _ _⟩
theorem szv_any (x : VD) (l : Int) (w : World) (hs : x.s.size ≤ maxLen) (h0 : 0 ≤ l) (h1 : l ≤ 1048576) :
    Calls Tryz.prog 61 #[VVd x, .int .i64 l] w fun e w' => (∃ r, e = .returned (.int .i64 r) ∧ (r = -1 ∨ (0 ≤ r ∧ r ≤ l))) ∧ Below w.heap.size w w' := by
  refine (sz_any x.k x.n x.f x.s x.r l w hs h0 h1).mono ?_
  rintro e w' ⟨rfl, hb⟩
  refine ⟨⟨_, rfl, ?_⟩, hb⟩
  split
  · exact .inl rfl
  · exact .inr ⟨by omega, by omega⟩

set_option maxRecDepth 20000 in
set_option maxHeartbeats 1000000 in
theorem szvs_any (a : Option Addr) (len cap : Nat) (xs : List VD) (l : Int) (w : World) (hl : xs.length = len) (hp : SlA w 5 VD.cells a xs) (hok : ∀ v ∈ xs, v.ok) (hlm : len ≤ maxLen) (h0 : 0 ≤ l) (h1 : l ≤ 1048576) :
    Calls Tryz.prog 35 #[.slice a len cap, .int .i64 l] w fun e w' => (∃ r, e = .returned (.int .i64 r) ∧ (r = -1 ∨ (0 ≤ r ∧ r ≤ l - len))) ∧ Below w.heap.size w w' := by
  unfold maxLen at hlm
  have HP : Hid (SlA w 5 VD.cells a xs) := hp
  have HL : Hid (xs.length = len) := hl
  have HO : Hid (∀ v ∈ xs, v.ok) := hok
  clear hp hl hok
  by_cases g1 : l - len < 0
  · go_enter Tryz.func35, Tryz.ntmps35
    go_wp2_with fail
    go_ret
    exact ⟨⟨-1, rfl, .inl rfl⟩, Below.refl _ _⟩
  · go_enter Tryz.func35, Tryz.ntmps35
    go_wp2_with fail
    go_loopw [1, 5] (fun lf i wr => ∃ (m : Nat) (v : Int), m ≤ len ∧ i = .int .i64 m ∧ lf = .int .i64 v ∧ 0 ≤ v ∧ v ≤ l - len ∧ Below w.heap.size w wr) (fun _ i _ => len - (intOf i).toNat)
    case atStart => exact ⟨0, _, Nat.zero_le _, rfl, rfl, by omega, by omega, Below.refl _ _⟩
    case round =>
      obtain ⟨m, v, hm, rfl, rfl, hv0, hv1, hB⟩ := hrel
      by_cases k1 : m < len
      · obtain ⟨x, hx⟩ : ∃ x, xs[m]? = some x := ⟨xs[m]'(by rw [HL.out]; exact k1), by simp⟩
        obtain ⟨b, off, rfl, hb, hc⟩ := HP.out m x hx
        have c0 : wr.cell? ⟨b, off + m * 5, none⟩ = some (.int .i64 x.k) := cell_later hB (hc 0 _ rfl)
        have c1 : wr.cell? ⟨b, off + m * 5 + 1, none⟩ = some (.int .i64 x.n) := cell_later hB (hc 1 _ rfl)
        have c2 : wr.cell? ⟨b, off + m * 5 + 2, none⟩ = some (.float .f64 x.f) := cell_later hB (hc 2 _ rfl)
        have c3 : wr.cell? ⟨b, off + m * 5 + 3, none⟩ = some (.string x.s) := cell_later hB (hc 3 _ rfl)
        have c4 : wr.cell? ⟨b, off + m * 5 + 4, none⟩ = some (.int .i64 x.r) := cell_later hB (hc 4 _ rfl)
        have hok := HO.out x (List.mem_of_getElem? hx)
        clear hx hc hb
        go_wp2_with fail
        refine (szv_any x v _ hok.2 hv0 (by omega)).mono ?_
        rintro e w1 ⟨⟨r, rfl, hr⟩, hx⟩
        replace hB := hB.trans (hx.mono hB.size)
        clear hx c0 c1 c2 c3 c4
        rcases hr with rfl | ⟨hr0, hr1⟩
        · go_wp2_with fail
          go_ret
          exact ⟨⟨-1, rfl, .inl rfl⟩, hB⟩
        · go_wp2_with fail
          go_roundw
          case rel => exact ⟨m + 1, r, by omega, by go_num, rfl, by omega, by omega, hB⟩
          case measure => simp [intOf]; omega
      · go_wp2_with fail
        go_ret
        exact ⟨⟨v, rfl, .inr ⟨hv0, hv1⟩⟩, hB⟩

set_option maxRecDepth 20000 in
set_option maxHeartbeats 1000000 in
theorem szns_any (a : Option Addr) (len cap : Nat) (xs : List ND) (l : Int) (w : World) (hl : xs.length = len) (hp : SlA w 4 ND.cells a xs) (hok : ∀ v ∈ xs, v.s.size ≤ maxLen) (hlm : len ≤ maxLen) (h0 : 0 ≤ l) (h1 : l ≤ 1048576) :
    Calls Tryz.prog 37 #[.slice a len cap, .int .i64 l] w fun e w' => (∃ r, e = .returned (.int .i64 r) ∧ (r = -1 ∨ (0 ≤ r ∧ r ≤ l - len))) ∧ Below w.heap.size w w' := by
  unfold maxLen at hlm
  have HP : Hid (SlA w 4 ND.cells a xs) := hp
  have HL : Hid (xs.length = len) := hl
  have HO : Hid (∀ v ∈ xs, v.s.size ≤ maxLen) := hok
  clear hp hl hok
  by_cases g1 : l - len < 0
  · go_enter Tryz.func37, Tryz.ntmps37
    go_wp2_with fail
    go_ret
    exact ⟨⟨-1, rfl, .inl rfl⟩, Below.refl _ _⟩
  · go_enter Tryz.func37, Tryz.ntmps37
    go_wp2_with fail
    go_loopw [1, 5] (fun lf i wr => ∃ (m : Nat) (v : Int), m ≤ len ∧ i = .int .i64 m ∧ lf = .int .i64 v ∧ 0 ≤ v ∧ v ≤ l - len ∧ Below w.heap.size w wr) (fun _ i _ => len - (intOf i).toNat)
    case atStart => exact ⟨0, _, Nat.zero_le _, rfl, rfl, by omega, by omega, Below.refl _ _⟩
    case round =>
      obtain ⟨m, v, hm, rfl, rfl, hv0, hv1, hB⟩ := hrel
      by_cases k1 : m < len
      · obtain ⟨x, hx⟩ : ∃ x, xs[m]? = some x := ⟨xs[m]'(by rw [HL.out]; exact k1), by simp⟩
        obtain ⟨b, off, rfl, hb, hc⟩ := HP.out m x hx
        have c0 : wr.cell? ⟨b, off + m * 4, none⟩ = some (.string x.s) := cell_later hB (hc 0 _ rfl)
        have c1 : wr.cell? ⟨b, off + m * 4 + 1, none⟩ = some (.int .i64 x.reg) := cell_later hB (hc 1 _ rfl)
        have c2 : wr.cell? ⟨b, off + m * 4 + 2, none⟩ = some (.int .i64 x.fr) := cell_later hB (hc 2 _ rfl)
        have c3 : wr.cell? ⟨b, off + m * 4 + 3, none⟩ = some (.int .i64 x.to) := cell_later hB (hc 3 _ rfl)
        have hok := HO.out x (List.mem_of_getElem? hx)
        clear hx hc hb
        go_wp2_with fail
        refine (szn_any x v _ hok hv0 (by omega)).mono ?_
        rintro e w1 ⟨⟨r, rfl, hr⟩, hx⟩
        replace hB := hB.trans (hx.mono hB.size)
        clear hx c0 c1 c2 c3
        rcases hr with rfl | ⟨hr0, hr1⟩
        · go_wp2_with fail
          go_ret
          exact ⟨⟨-1, rfl, .inl rfl⟩, hB⟩
        · go_wp2_with fail
          go_roundw
          case rel => exact ⟨m + 1, r, by omega, by go_num, rfl, by omega, by omega, hB⟩
          case measure => simp [intOf]; omega
      · go_wp2_with fail
        go_ret
        exact ⟨⟨v, rfl, .inr ⟨hv0, hv1⟩⟩, hB⟩
end Go.Proofs.YtmicnjphlakoaaaGreatDoor
