/-
  OWN WORK. Codes: two lists that hold the same are found so.
-/
import Derived.Test.YtmicnjphlakoaaaGreatDoorCTo
import Derived.Test.YtmicnjphlakoaaaGreatDoorEq
import Derived.Deep.RegionWith
namespace Go.Proofs.YtmicnjphlakoaaaGreatDoor
open Go.RowKit
attribute [local go_sem] run_store_float
set_option linter.unusedVariables false


set_option maxHeartbeats 400000 in
theorem equ_any (x : UD) (w : World) : Calls Tryz.prog 76 #[UV x, UV x] w fun e w' => e = .returned (.bool true) ∧ Below w.heap.size w w' := by
  go_enter Tryz.func76, Tryz.ntmps76
  go_wp2
  go_ret
  exact ⟨rfl, bw2 _ _ _⟩

set_option maxHeartbeats 400000 in
theorem eqi_any (x : ID) (w : World) : Calls Tryz.prog 78 #[IV x, IV x] w fun e w' => e = .returned (.bool true) ∧ Below w.heap.size w w' := by
  go_enter Tryz.func78, Tryz.ntmps78
  go_wp2
  go_ret
  exact ⟨rfl, bw2 _ _ _⟩

set_option maxHeartbeats 400000 in
theorem eqn_any (x : ND) (w : World) : Calls Tryz.prog 79 #[NV x, NV x] w fun e w' => e = .returned (.bool true) ∧ Below w.heap.size w w' := by
  go_enter Tryz.func79, Tryz.ntmps79
  go_wp2
  go_ret
  exact ⟨rfl, bw2 _ _ _⟩

theorem eqv_any (x : VD) (w : World) : Calls Tryz.prog 77 #[VVd x, VVd x] w fun e w' => e = .returned (.bool true) ∧ Below w.heap.size w w' := eqv x.k x.n x.f x.s x.r w

set_option maxRecDepth 20000 in
set_option maxHeartbeats 1000000 in
theorem equs_any (a a' : Option Addr) (cap cap' len : Nat) (xs : List UD) (w : World) (hl : xs.length = len) (hp : SlA w 2 UD.cells a xs) (hp' : SlA w 2 UD.cells a' xs) (hlen : len ≤ 1048576) :
    Calls Tryz.prog 57 #[.slice a len cap, .slice a' len cap'] w fun e w' => e = .returned (.bool true) ∧ Below w.heap.size w w' := by
  have HP : Hid (SlA w 2 UD.cells a xs) := hp
  have HP' : Hid (SlA w 2 UD.cells a' xs) := hp'
  have HL : Hid (xs.length = len) := hl
  clear hp hp' hl
  go_enter Tryz.func57, Tryz.ntmps57
  go_wp2_with fail
  go_loopw [5] (fun i wr => ∃ m : Nat, m ≤ len ∧ i = .int .i64 m ∧ Below w.heap.size w wr) (fun i _ => len - (intOf i).toNat)
  case atStart => exact ⟨0, Nat.zero_le _, rfl, Below.refl _ _⟩
  case round =>
    obtain ⟨m, hm, rfl, hB⟩ := hrel
    by_cases k1 : m < len
    · obtain ⟨x, hx⟩ : ∃ x, xs[m]? = some x := ⟨xs[m]'(by rw [HL.out]; exact k1), by simp⟩
      obtain ⟨b, off, rfl, hb, hc⟩ := HP.out m x hx
      obtain ⟨b', off', rfl, hb', hc'⟩ := HP'.out m x hx
      have c0 : wr.cell? ⟨b, off + m * 2, none⟩ = some (.bool x.l) := cell_later hB (hc 0 _ rfl)
      have c1 : wr.cell? ⟨b, off + m * 2 + 1, none⟩ = some (.int .i64 x.i) := cell_later hB (hc 1 _ rfl)
      have d0 : wr.cell? ⟨b', off' + m * 2, none⟩ = some (.bool x.l) := cell_later hB (hc' 0 _ rfl)
      have d1 : wr.cell? ⟨b', off' + m * 2 + 1, none⟩ = some (.int .i64 x.i) := cell_later hB (hc' 1 _ rfl)
      clear hx hc hc' hb hb'
      go_wp2_with fail
      go_region_with (go_at_call 76; refine (equ_any x _).mono ?_; rintro e w1 ⟨rfl, hx⟩)
      all_goals
        replace hx := und1 hx
        replace hB := hB.trans (hx.mono hB.size)
        clear hx c0 c1 d0 d1
        go_wp2_with fail
        go_roundw
        case rel => exact ⟨m + 1, by omega, by go_num, hB⟩
        case measure => simp [intOf]; omega
    · go_wp2_with fail
      go_ret
      exact ⟨rfl, hB⟩

set_option maxRecDepth 20000 in
set_option maxHeartbeats 1000000 in
theorem eqvs_any (a a' : Option Addr) (cap cap' len : Nat) (xs : List VD) (w : World) (hl : xs.length = len) (hp : SlA w 5 VD.cells a xs) (hp' : SlA w 5 VD.cells a' xs) (hlen : len ≤ 1048576) :
    Calls Tryz.prog 58 #[.slice a len cap, .slice a' len cap'] w fun e w' => e = .returned (.bool true) ∧ Below w.heap.size w w' := by
  have HP : Hid (SlA w 5 VD.cells a xs) := hp
  have HP' : Hid (SlA w 5 VD.cells a' xs) := hp'
  have HL : Hid (xs.length = len) := hl
  clear hp hp' hl
  go_enter Tryz.func58, Tryz.ntmps58
  go_wp2_with fail
  go_loopw [5] (fun i wr => ∃ m : Nat, m ≤ len ∧ i = .int .i64 m ∧ Below w.heap.size w wr) (fun i _ => len - (intOf i).toNat)
  case atStart => exact ⟨0, Nat.zero_le _, rfl, Below.refl _ _⟩
  case round =>
    obtain ⟨m, hm, rfl, hB⟩ := hrel
    by_cases k1 : m < len
    · obtain ⟨x, hx⟩ : ∃ x, xs[m]? = some x := ⟨xs[m]'(by rw [HL.out]; exact k1), by simp⟩
      obtain ⟨b, off, rfl, hb, hc⟩ := HP.out m x hx
      obtain ⟨b', off', rfl, hb', hc'⟩ := HP'.out m x hx
      have c0 : wr.cell? ⟨b, off + m * 5, none⟩ = some (.int .i64 x.k) := cell_later hB (hc 0 _ rfl)
      have c1 : wr.cell? ⟨b, off + m * 5 + 1, none⟩ = some (.int .i64 x.n) := cell_later hB (hc 1 _ rfl)
      have c2 : wr.cell? ⟨b, off + m * 5 + 2, none⟩ = some (.float .f64 x.f) := cell_later hB (hc 2 _ rfl)
      have c3 : wr.cell? ⟨b, off + m * 5 + 3, none⟩ = some (.string x.s) := cell_later hB (hc 3 _ rfl)
      have c4 : wr.cell? ⟨b, off + m * 5 + 4, none⟩ = some (.int .i64 x.r) := cell_later hB (hc 4 _ rfl)
      have d0 : wr.cell? ⟨b', off' + m * 5, none⟩ = some (.int .i64 x.k) := cell_later hB (hc' 0 _ rfl)
      have d1 : wr.cell? ⟨b', off' + m * 5 + 1, none⟩ = some (.int .i64 x.n) := cell_later hB (hc' 1 _ rfl)
      have d2 : wr.cell? ⟨b', off' + m * 5 + 2, none⟩ = some (.float .f64 x.f) := cell_later hB (hc' 2 _ rfl)
      have d3 : wr.cell? ⟨b', off' + m * 5 + 3, none⟩ = some (.string x.s) := cell_later hB (hc' 3 _ rfl)
      have d4 : wr.cell? ⟨b', off' + m * 5 + 4, none⟩ = some (.int .i64 x.r) := cell_later hB (hc' 4 _ rfl)
      clear hx hc hc' hb hb'
      go_wp2_with fail
      go_region_with (go_at_call 77; refine (eqv_any x _).mono ?_; rintro e w1 ⟨rfl, hx⟩)
      all_goals
        replace hx := und1 hx
        replace hB := hB.trans (hx.mono hB.size)
        clear hx c0 c1 c2 c3 c4 d0 d1 d2 d3 d4
        go_wp2_with fail
        go_roundw
        case rel => exact ⟨m + 1, by omega, by go_num, hB⟩
        case measure => simp [intOf]; omega
    · go_wp2_with fail
      go_ret
      exact ⟨rfl, hB⟩

set_option maxRecDepth 20000 in
set_option maxHeartbeats 1000000 in
theorem eqis_any (a a' : Option Addr) (cap cap' len : Nat) (xs : List ID) (w : World) (hl : xs.length = len) (hp : SlA w 5 ID.cells a xs) (hp' : SlA w 5 ID.cells a' xs) (hlen : len ≤ 1048576) :
    Calls Tryz.prog 59 #[.slice a len cap, .slice a' len cap'] w fun e w' => e = .returned (.bool true) ∧ Below w.heap.size w w' := by
  have HP : Hid (SlA w 5 ID.cells a xs) := hp
  have HP' : Hid (SlA w 5 ID.cells a' xs) := hp'
  have HL : Hid (xs.length = len) := hl
  clear hp hp' hl
  go_enter Tryz.func59, Tryz.ntmps59
  go_wp2_with fail
  go_loopw [5] (fun i wr => ∃ m : Nat, m ≤ len ∧ i = .int .i64 m ∧ Below w.heap.size w wr) (fun i _ => len - (intOf i).toNat)
  case atStart => exact ⟨0, Nat.zero_le _, rfl, Below.refl _ _⟩
  case round =>
    obtain ⟨m, hm, rfl, hB⟩ := hrel
    by_cases k1 : m < len
    · obtain ⟨x, hx⟩ : ∃ x, xs[m]? = some x := ⟨xs[m]'(by rw [HL.out]; exact k1), by simp⟩
      obtain ⟨b, off, rfl, hb, hc⟩ := HP.out m x hx
      obtain ⟨b', off', rfl, hb', hc'⟩ := HP'.out m x hx
      have c0 : wr.cell? ⟨b, off + m * 5, none⟩ = some (.int .i64 x.op) := cell_later hB (hc 0 _ rfl)
      have c1 : wr.cell? ⟨b, off + m * 5 + 1, none⟩ = some (.int .i64 x.a) := cell_later hB (hc 1 _ rfl)
      have c2 : wr.cell? ⟨b, off + m * 5 + 2, none⟩ = some (.int .i64 x.b) := cell_later hB (hc 2 _ rfl)
      have c3 : wr.cell? ⟨b, off + m * 5 + 3, none⟩ = some (.int .i64 x.c) := cell_later hB (hc 3 _ rfl)
      have c4 : wr.cell? ⟨b, off + m * 5 + 4, none⟩ = some (.int .i64 x.d) := cell_later hB (hc 4 _ rfl)
      have d0 : wr.cell? ⟨b', off' + m * 5, none⟩ = some (.int .i64 x.op) := cell_later hB (hc' 0 _ rfl)
      have d1 : wr.cell? ⟨b', off' + m * 5 + 1, none⟩ = some (.int .i64 x.a) := cell_later hB (hc' 1 _ rfl)
      have d2 : wr.cell? ⟨b', off' + m * 5 + 2, none⟩ = some (.int .i64 x.b) := cell_later hB (hc' 2 _ rfl)
      have d3 : wr.cell? ⟨b', off' + m * 5 + 3, none⟩ = some (.int .i64 x.c) := cell_later hB (hc' 3 _ rfl)
      have d4 : wr.cell? ⟨b', off' + m * 5 + 4, none⟩ = some (.int .i64 x.d) := cell_later hB (hc' 4 _ rfl)
      clear hx hc hc' hb hb'
      go_wp2_with fail
      go_region_with (go_at_call 78; refine (eqi_any x _).mono ?_; rintro e w1 ⟨rfl, hx⟩)
      all_goals
        replace hx := und1 hx
        replace hB := hB.trans (hx.mono hB.size)
        clear hx c0 c1 c2 c3 c4 d0 d1 d2 d3 d4
        go_wp2_with fail
        go_roundw
        case rel => exact ⟨m + 1, by omega, by go_num, hB⟩
        case measure => simp [intOf]; omega
    · go_wp2_with fail
      go_ret
      exact ⟨rfl, hB⟩

set_option maxRecDepth 20000 in
set_option maxHeartbeats 1000000 in
theorem eqns_any (a a' : Option Addr) (cap cap' len : Nat) (xs : List ND) (w : World) (hl : xs.length = len) (hp : SlA w 4 ND.cells a xs) (hp' : SlA w 4 ND.cells a' xs) (hlen : len ≤ 1048576) :
    Calls Tryz.prog 60 #[.slice a len cap, .slice a' len cap'] w fun e w' => e = .returned (.bool true) ∧ Below w.heap.size w w' := by
  have HP : Hid (SlA w 4 ND.cells a xs) := hp
  have HP' : Hid (SlA w 4 ND.cells a' xs) := hp'
  have HL : Hid (xs.length = len) := hl
  clear hp hp' hl
  go_enter Tryz.func60, Tryz.ntmps60
  go_wp2_with fail
  go_loopw [5] (fun i wr => ∃ m : Nat, m ≤ len ∧ i = .int .i64 m ∧ Below w.heap.size w wr) (fun i _ => len - (intOf i).toNat)
  case atStart => exact ⟨0, Nat.zero_le _, rfl, Below.refl _ _⟩
  case round =>
    obtain ⟨m, hm, rfl, hB⟩ := hrel
    by_cases k1 : m < len
    · obtain ⟨x, hx⟩ : ∃ x, xs[m]? = some x := ⟨xs[m]'(by rw [HL.out]; exact k1), by simp⟩
      obtain ⟨b, off, rfl, hb, hc⟩ := HP.out m x hx
      obtain ⟨b', off', rfl, hb', hc'⟩ := HP'.out m x hx
      have c0 : wr.cell? ⟨b, off + m * 4, none⟩ = some (.string x.s) := cell_later hB (hc 0 _ rfl)
      have c1 : wr.cell? ⟨b, off + m * 4 + 1, none⟩ = some (.int .i64 x.reg) := cell_later hB (hc 1 _ rfl)
      have c2 : wr.cell? ⟨b, off + m * 4 + 2, none⟩ = some (.int .i64 x.fr) := cell_later hB (hc 2 _ rfl)
      have c3 : wr.cell? ⟨b, off + m * 4 + 3, none⟩ = some (.int .i64 x.to) := cell_later hB (hc 3 _ rfl)
      have d0 : wr.cell? ⟨b', off' + m * 4, none⟩ = some (.string x.s) := cell_later hB (hc' 0 _ rfl)
      have d1 : wr.cell? ⟨b', off' + m * 4 + 1, none⟩ = some (.int .i64 x.reg) := cell_later hB (hc' 1 _ rfl)
      have d2 : wr.cell? ⟨b', off' + m * 4 + 2, none⟩ = some (.int .i64 x.fr) := cell_later hB (hc' 2 _ rfl)
      have d3 : wr.cell? ⟨b', off' + m * 4 + 3, none⟩ = some (.int .i64 x.to) := cell_later hB (hc' 3 _ rfl)
      clear hx hc hc' hb hb'
      go_wp2_with fail
      go_region_with (go_at_call 79; refine (eqn_any x _).mono ?_; rintro e w1 ⟨rfl, hx⟩)
      all_goals
        replace hx := und1 hx
        replace hB := hB.trans (hx.mono hB.size)
        clear hx c0 c1 c2 c3 d0 d1 d2 d3
        go_wp2_with fail
        go_roundw
        case rel => exact ⟨m + 1, by omega, by go_num, hB⟩
        case measure => simp [intOf]; omega
    · go_wp2_with fail
      go_ret
      exact ⟨rfl, hB⟩
end Go.Proofs.YtmicnjphlakoaaaGreatDoor
