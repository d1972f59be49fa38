import Derived.Test.YtfkeklndcjkgcaaGreatDoorQSpD
import Derived.Test.YtfkeklndcjkgcaaGreatDoorEImK
import Derived.Laws.Shifts
/-
  OWN WORK. The program's tape that is read: bytes, groups, numbers.
-/
namespace Go.Proofs.YtfkeklndcjkgcaaGreatDoor
open Go.RowKit
attribute [local go_sem] run_store_float
set_option linter.unusedVariables false
set_option linter.unusedSimpArgs false

/-- All but two blocks are as they were: the tape's, and that of what is read. -/
structure Bs (t b : Nat) (w w' : World) : Prop where
  os : w'.os = w.os
  tape : w'.tape = w.tape
  output : w'.output = w.output
  size : w.heap.size ≤ w'.heap.size
  block : ∀ j, j < w.heap.size → j ≠ t → j ≠ b → w'.heap[j]? = w.heap[j]?
theorem Bs.refl (t b : Nat) (w : World) : Bs t b w w := ⟨rfl, rfl, rfl, Nat.le_refl _, fun _ _ _ _ => rfl⟩
theorem Bs.trans {t b : Nat} {w w1 w2 : World} (h : Bs t b w w1) (h' : Bs t b w1 w2) : Bs t b w w2 :=
  ⟨h'.os.trans h.os, h'.tape.trans h.tape, h'.output.trans h.output, Nat.le_trans h.size h'.size, fun j hj h1 h2 => (h'.block j (Nat.lt_of_lt_of_le hj h.size) h1 h2).trans (h.block j hj h1 h2)⟩
theorem Bs.of_below {t b : Nat} {w w' : World} (h : Below w.heap.size w w') : Bs t b w w' := ⟨h.os, h.tape, h.output, h.size, fun j hj _ _ => h.block j hj⟩
theorem Bs.into {t b b0 : Nat} {w0 w w' : World} (h0 : Bs t b0 w0 w) (h : Bs t b w w') (hb : w0.heap.size ≤ b) : Bs t b0 w0 w' :=
  ⟨h.os.trans h0.os, h.tape.trans h0.tape, h.output.trans h0.output, Nat.le_trans h0.size h.size, fun j hj h1 h2 => (h.block j (Nat.lt_of_lt_of_le hj h0.size) h1 (by omega)).trans (h0.block j hj h1 h2)⟩
theorem Bs.to {t b : Nat} {w w' : World} (h : Bs t t w w') : Bs t b w w' := ⟨h.os, h.tape, h.output, h.size, fun j hj h1 _ => h.block j hj h1 h1⟩
theorem Bs.set_t {t b : Nat} {w w' : World} (h : Bs t b w w') (j : Nat) (v : Value) : Bs t b w (w'.setCell ⟨t, j, none⟩ v) :=
  ⟨h.os, h.tape, h.output, by simpa using h.size, fun q hq h1 h2 => by rw [Below.heap_setCell _ _ _ _ (by show q ≠ t; exact h1)]; exact h.block q hq h1 h2⟩
theorem Bs.set_b {t b : Nat} {w w' : World} (h : Bs t b w w') (j : Nat) (v : Value) : Bs t b w (w'.setCell ⟨b, j, none⟩ v) :=
  ⟨h.os, h.tape, h.output, by simpa using h.size, fun q hq h1 h2 => by rw [Below.heap_setCell _ _ _ _ (by show q ≠ b; exact h2)]; exact h.block q hq h1 h2⟩
theorem Bs.set_n {t b k : Nat} {w w' : World} (h : Bs t b w w') (hk : w.heap.size ≤ k) (j : Nat) (v : Value) : Bs t b w (w'.setCell ⟨k, j, none⟩ v) :=
  ⟨h.os, h.tape, h.output, by simpa using h.size, fun q hq h1 h2 => by rw [Below.heap_setCell _ _ _ _ (by show q ≠ k; omega)]; exact h.block q hq h1 h2⟩
theorem Bs.blk {t b : Nat} {w w' : World} (h : Bs t b w w') {j : Nat} {o : Obj} (hj : w.heap[j]? = some o) (h1 : j ≠ t) (h2 : j ≠ b) : w'.heap[j]? = some o := (h.block j (blk_lt hj) h1 h2).trans hj
theorem Bs.blkn {t b : Nat} {w w' : World} (h : Bs t t w w') {j : Nat} {o : Obj} (hj : w.heap[j]? = some o) (h1 : j ≠ t) : w'.heap[j]? = some o := (h.block j (blk_lt hj) h1 h1).trans hj

/-- What stays in a reading: the base above the tape's things, its blocks, the bytes. -/
structure Cx where
  B : Nat
  t : Nat
  gp : Nat
  gm : Nat
  ab : Nat
  off : Nat
  n : Nat
  cap : Nat
  bs : List UInt8
abbrev TRO (c : Cx) (p : Nat) : Obj := .cells #[.slice (some ⟨c.ab, c.off, none⟩) c.n c.cap, .bool true, .int .i64 (p : Int), .slice (some ⟨c.gp, 0, none⟩) 5 5, .map (some c.gm)] 78
def TR (c : Cx) (w : World) (p : Nat) : Prop := w.heap[c.t]? = some (TRO c p)
/-- The tape, so many bytes read. -/
structure Rt (c : Cx) (w : World) (p : Nat) : Prop where
  tp : TR c w p
  bytes : ∀ (i : Nat) (u : UInt8), c.bs[i]? = some u → w.cell? ⟨c.ab, c.off + i, none⟩ = some (.int .u8 (u.toNat : Int))
  pa : Parts w c.t c.gp c.gm
  lab : c.ab < c.B
  lt : c.t < c.B
  lp : c.gp < c.B
  lm : c.gm < c.B
  ne : c.ab ≠ c.t
  hB : c.B ≤ w.heap.size
  hn : c.bs.length = c.n
  hn2 : c.n ≤ 1000000
  hcap : c.n ≤ c.cap
  hcm : c.cap ≤ maxLen
  hp : p ≤ c.n
theorem Rt.step {c : Cx} {w w' : World} {p p' b : Nat} (h : Rt c w p) (hb : Bs c.t b w w') (hlb : c.B ≤ b) (ht : TR c w' p') (hp : p' ≤ c.n) : Rt c w' p' := by
  have hB := h.hB
  refine ⟨ht, fun i u hu => ?_, ⟨hb.blk h.pa.p h.pa.np (by have := h.lp; omega), hb.blk h.pa.m h.pa.nm (by have := h.lm; omega), h.pa.np, h.pa.nm⟩, h.lab, h.lt, h.lp, h.lm, h.ne, Nat.le_trans hB hb.size, h.hn, h.hn2, h.hcap, h.hcm, hp⟩
  have e := hb.block c.ab (by have := h.lab; omega) h.ne (by have := h.lab; omega)
  have := h.bytes i u hu
  rw [← this]
  exact cell_of_block e
theorem Rt.stay {c : Cx} {w w' : World} {p b : Nat} (h : Rt c w p) (hb : Bs c.t b w w') (hlb : c.B ≤ b) (ht : w'.heap[c.t]? = w.heap[c.t]?) : Rt c w' p := h.step hb hlb (ht.trans h.tp) h.hp
theorem Rt.later {c : Cx} {w w' : World} {p : Nat} (h : Rt c w p) (hb : Below w.heap.size w w') : Rt c w' p := h.step (b := c.B) (Bs.of_below hb) (Nat.le_refl _) (blk_later hb h.tp) h.hp
theorem Rt.put {c : Cx} {w : World} {p b : Nat} (h : Rt c w p) (hb : c.B ≤ b) (j : Nat) (v : Value) : Rt c (w.setCell ⟨b, j, none⟩ v) p :=
  h.step (b := b) ((Bs.refl _ _ _).set_b _ _) hb (blk_other h.tp (by have := h.lt; omega) _ _) h.hp
theorem Rt.c0 {c : Cx} {w : World} {p : Nat} (h : Rt c w p) : w.cell? ⟨c.t, 0, none⟩ = some (.slice (some ⟨c.ab, c.off, none⟩) c.n c.cap) := (blk_cell h.tp 0).trans rfl
theorem Rt.c1 {c : Cx} {w : World} {p : Nat} (h : Rt c w p) : w.cell? ⟨c.t, 1, none⟩ = some (.bool true) := (blk_cell h.tp 1).trans rfl
theorem Rt.c2 {c : Cx} {w : World} {p : Nat} (h : Rt c w p) : w.cell? ⟨c.t, 2, none⟩ = some (.int .i64 (p : Int)) := (blk_cell h.tp 2).trans rfl
theorem Rt.c3 {c : Cx} {w : World} {p : Nat} (h : Rt c w p) : w.cell? ⟨c.t, 3, none⟩ = some (.slice (some ⟨c.gp, 0, none⟩) 5 5) := (blk_cell h.tp 3).trans rfl
theorem Rt.c4 {c : Cx} {w : World} {p : Nat} (h : Rt c w p) : w.cell? ⟨c.t, 4, none⟩ = some (.map (some c.gm)) := (blk_cell h.tp 4).trans rfl

/-- A byte is read, or there is none. -/
def OctR (c : Cx) (p : Nat) (w : World) (e : Ending) (w' : World) : Prop :=
  Bs c.t c.t w w' ∧ ((∃ u, c.bs[p]? = some u ∧ e = .returned (.int .u8 (u.toNat : Int)) ∧ Rt c w' (p + 1)) ∨ (e = .panicked CH ∧ c.bs.length ≤ p))

set_option maxRecDepth 20000 in
set_option maxHeartbeats 4000000 in
theorem ro_any (c : Cx) (p : Nat) (z : Int) (w : World) (h : Rt c w p) :
    Calls Tryz.prog 122 #[.pointer (some ⟨c.t, 0, none⟩), .int .u8 z] w (OctR c p w) := by
  have H : Hid (Rt c w p) := h
  have r0 := h.c0
  have r1 := h.c1
  have r2 := h.c2
  have hn2 := h.hn2
  by_cases hp : p < c.n
  · obtain ⟨u, hu⟩ : ∃ u, c.bs[p]? = some u := ⟨c.bs[p]'(by rw [h.hn]; exact hp), by simp⟩
    have hc := h.bytes p u hu
    have HU : Hid (c.bs[p]? = some u) := hu
    have z1 := blk_frozen h.tp
    have hne : ¬ (p : Int) = (c.n : Int) := by omega
    have hu0 : 0 ≤ (u.toNat : Int) := by omega
    have hu1 : (u.toNat : Int) ≤ 255 := by have := u.toNat_lt; omega
    have hna := h.ne
    clear h hu
    go_enter Tryz.func122, Tryz.ntmps122
    go_wp2_with fail
    go_region
    go_wp2_with fail
    go_region
    go_wp2_with fail
    go_ret
    have hb : Bs c.t c.t w (((w.drew).setCell ⟨c.t, 2, none⟩ (.int .i64 ((p : Int) + 1))).drew) := (((Bs.of_below (Below.refl _ _).drew).set_t _ _).trans (Bs.of_below (Below.refl _ _).drew))
    refine ⟨hb, .inl ⟨u, HU.out, rfl, ?_⟩⟩
    refine H.out.step (b := c.B) hb.to (Nat.le_refl _) ?_ (by omega)
    have := blk_set (w := w.drew) H.out.tp 2 (.int .i64 ((p : Int) + 1))
    exact this
  · have hpn : p = c.n := by have := h.hp; omega
    have hlen : c.bs.length ≤ p := by rw [h.hn, hpn]; exact Nat.le_refl _
    rw [hpn] at r2
    clear h H hpn
    go_enter Tryz.func122, Tryz.ntmps122
    go_wp2_with fail
    go_region
    go_wp2_with fail
    exact ⟨rfl, Bs.of_below (Below.refl _ _).drew, .inr ⟨rfl, hlen⟩⟩
end Go.Proofs.YtfkeklndcjkgcaaGreatDoor

/-
  OWN WORK. The program's tape that is read: groups, numbers.
-/
namespace Go.Proofs.YtfkeklndcjkgcaaGreatDoor
open Go.RowKit
attribute [local go_sem] run_store_float
set_option linter.unusedVariables false
set_option linter.unusedSimpArgs false

/-- A number's groups are read, or there are too few bytes. -/
def GrpR (c : Cx) (p : Nat) (w : World) (e : Ending) (w' : World) : Prop :=
  Bs c.t c.t w w' ∧ ((∃ V p' : Nat, e = .returned (.int .u64 (V : Int)) ∧ V < 18446744073709551616 ∧ p < p' ∧ Rt c w' p' ∧ ∀ x r0, I64 x → c.bs.drop p = numL x ++ r0 → V = zig x ∧ c.bs.drop p' = r0) ∨ (e = .panicked CH ∧ ∀ x r0, I64 x → c.bs.drop p ≠ numL x ++ r0))

theorem u8_127 (c : Nat) (hc : c < 256) : bits .and .u8 (c : Int) 127 = (c : Int) % 128 := by
  have key : ∀ x : Nat, x < 256 → bits .and .u8 (x : Int) 127 = (x : Int) % 128 := by decide +kernel
  exact key c hc
theorem shl_big (c i : Nat) : IntKind.u64.wrap ((c : Int) % 128 * 2 ^ min (7 * (i : Int)).toNat IntKind.u64.bits) = IntKind.u64.wrap ((c : Int) % 128 * 2 ^ (7 * i)) := by
  have e : (7 * (i : Int)).toNat = 7 * i := by omega
  rw [e]
  by_cases h : 7 * i ≤ 64
  · rw [Nat.min_eq_left (by exact h)]
  · rw [Nat.min_eq_right (by show 64 ≤ 7 * i; omega)]
    obtain ⟨k, hk⟩ : ∃ k, 7 * i = 64 + k := ⟨7 * i - 64, by omega⟩
    rw [hk]
    show IntKind.u64.wrap ((c : Int) % 128 * 2 ^ 64) = _
    rw [IntKind.wrap_u64, IntKind.wrap_u64, Int.pow_add, ← Int.mul_assoc, Int.mul_right_comm]
    have e1 : ((2 : Int) ^ 64) = 18446744073709551616 := by decide
    rw [e1, Int.mul_emod_left, Int.mul_emod_left]

set_option maxRecDepth 20000 in
set_option maxHeartbeats 4000000 in
theorem rg_any (c : Cx) (p : Nat) (w : World) (h : Rt c w p) :
    Calls Tryz.prog 149 #[.pointer (some ⟨c.t, 0, none⟩)] w (GrpR c p w) := by
  have H : Hid (Rt c w p) := h
  have hn2 := h.hn2
  clear h
  go_enter Tryz.func149, Tryz.ntmps149
  go_wp2_with fail
  go_loopw [3, 4] (fun uu ii wr => ∃ (i v : Nat), p + i ≤ c.n ∧ ii = .int .i64 ((7 * i : Nat) : Int) ∧ uu = .int .u64 (v : Int) ∧ v < 18446744073709551616 ∧ Hid (Rt c wr (p + i)) ∧ Hid (Bs c.t c.t w wr) ∧ Hid (∀ x r0, I64 x → c.bs.drop p = numL x ++ r0 → Tg c.bs (p + i) r0 i (zig x) ∧ v = zig x % 2 ^ (7 * i))) (fun _ ii _ => c.n - p - (intOf ii).toNat / 7)
  case atStart => exact ⟨0, 0, H.out.hp, rfl, rfl, by omega, H, Bs.refl _ _ _, fun x r0 hx hd => ⟨tg_zero hd, by rw [Nat.mul_zero, Nat.pow_zero, Nat.mod_one]⟩⟩
  case round =>
    clear H
    obtain ⟨i, v, hi, rfl, rfl, hv, H, HK, HI⟩ := hrel
    go_wp2_with fail
    refine (ro_any c (p + i) 0 wr H.out).mono ?_
    rintro e w1 ⟨hk, ⟨u, hu, rfl, hr⟩ | ⟨rfl, hx⟩⟩
    · have H2 : Hid (Rt c w1 (p + i + 1)) := hr
      have HK2 : Hid (Bs c.t c.t w w1) := HK.out.trans hk
      have hpn := hr.hp
      obtain ⟨cc, hcc⟩ : ∃ cc, cc = u.toNat := ⟨_, rfl⟩
      have hc256 : cc < 256 := by rw [hcc]; exact u.toNat_lt
      have HQ : Hid (∀ u', c.bs[p + i]? = some u' → cc = u'.toNat) := fun u' hu' => by rw [hu] at hu'; cases hu'; exact hcc
      rw [← hcc]
      clear hr hk H HK hcc hu
      have e1 := u8_127 cc hc256
      obtain ⟨V, hV⟩ : ∃ V, V = mixN v cc i := ⟨_, rfl⟩
      have HV : Hid (V = mixN v cc i) := hV
      have e2 := mix_bits v cc i hv
      rw [← hV, ← shl_big] at e2
      obtain ⟨S, hS⟩ : ∃ S, S = IntKind.u64.wrap ((cc : Int) % 128 * 2 ^ min (7 * (i : Int)).toNat IntKind.u64.bits) := ⟨_, rfl⟩
      rw [← hS] at e2
      have e3 : Op.shift .shl .u64 ((cc : Int) % 128) .i64 (7 * (i : Int)) = pure (.int .u64 S) := by rw [shift_shl_any _ _ _ _ (by omega), hS]
      have hV2 : V < 18446744073709551616 := by rw [hV]; exact mix_lt hv
      clear hV hS
      by_cases k2 : cc < 128
      · have k3 : (cc : Int) < 128 := by omega
        have HFX : Hid (∀ x r0, I64 x → c.bs.drop p = numL x ++ r0 → V = zig x ∧ c.bs.drop (p + i + 1) = r0) := by
          intro x r0 hx hd
          obtain ⟨ht, hvz⟩ := HI.out x r0 hx hd
          obtain ⟨u, hu, hlt, hcase⟩ := tg_step ht (by have := zig_lt x; simpa using this)
          have hcu := HQ.out u hu
          rw [← hcu] at hlt hcase
          rcases hcase with ⟨_, h1, h2⟩ | ⟨h1, _⟩
          · refine ⟨?_, h2⟩
            rw [HV.out, mix_eq (by rw [hvz]; exact Nat.mod_lt _ (Nat.two_pow_pos _)) hlt, hvz]
            exact h1
          · omega
        clear HI HQ
        go_wp2_with fail
        go_ret
        exact ⟨HK2.out, .inl ⟨V, p + i + 1, rfl, hV2, by omega, H2.out, HFX.out⟩⟩
      · have k3 : ¬ (cc : Int) < 128 := by omega
        have HFX : Hid (∀ x r0, I64 x → c.bs.drop p = numL x ++ r0 → Tg c.bs (p + (i + 1)) r0 (i + 1) (zig x) ∧ V = zig x % 2 ^ (7 * (i + 1))) := by
          intro x r0 hx hd
          obtain ⟨ht, hvz⟩ := HI.out x r0 hx hd
          obtain ⟨u, hu, hlt, hcase⟩ := tg_step ht (by have := zig_lt x; simpa using this)
          have hcu := HQ.out u hu
          rw [← hcu] at hlt hcase
          rcases hcase with ⟨h1, _⟩ | ⟨_, h1, h2⟩
          · omega
          · refine ⟨h2, ?_⟩
            rw [HV.out, mix_eq (by rw [hvz]; exact Nat.mod_lt _ (Nat.two_pow_pos _)) hlt, hvz]
            exact h1
        clear HI HQ
        go_wp2_with fail
        go_roundw
        case rel => exact ⟨i + 1, V, by omega, by congr 1, rfl, hV2, H2, HK2, HFX⟩
        case measure => simp [intOf]; omega
    · refine ⟨rfl, HK.out.trans hk, .inr ⟨rfl, fun x r0 hx0 hd => ?_⟩⟩
      obtain ⟨ht, hvz⟩ := HI.out x r0 hx0 hd
      obtain ⟨u, hu, hlt, hcase⟩ := tg_step ht (by have := zig_lt x; simpa using this)
      have := (List.getElem?_eq_some_iff.1 hu).1
      omega

theorem unf_any (V : Nat) (w : World) (hV : V < 18446744073709551616) : Calls Tryz.prog 148 #[.int .u64 (V : Int)] w fun e w' => e = .returned (.int .i64 (fin V)) ∧ w' = w := by
  by_cases k4 : V % 2 = 1
  · have e3 : bits .and .u64 (V : Int) 1 = 1 := by rw [and_one V hV, k4]; rfl
    have e4 : bits .xor .i64 (-1) ((V : Int) / 2) = -((V : Int) / 2) - 1 := by have := not_i64 (V / 2) (by omega); simpa using this
    go_enter Tryz.func148, Tryz.ntmps148
    go_wp2_with fail
    go_ret
    exact ⟨by rw [fin_odd k4]; rfl, rfl⟩
  · have e3 : bits .and .u64 (V : Int) 1 = 0 := by rw [and_one V hV, show V % 2 = 0 by omega]; rfl
    go_enter Tryz.func148, Tryz.ntmps148
    go_wp2_with fail
    go_ret
    exact ⟨by rw [fin_even k4]; rfl, rfl⟩

/-- Something is read into a block, or the tape ends. -/
def Got {α : Type} (c : Cx) (p b : Nat) (res : World → α → Prop) (ok : α → Prop) (enc : α → List UInt8) (w : World) (e : Ending) (w' : World) : Prop :=
  Bs c.t b w w' ∧ ((∃ x p', e = .returned (.tuple #[]) ∧ p < p' ∧ Rt c w' p' ∧ res w' x ∧ ∀ y r0, ok y → c.bs.drop p = enc y ++ r0 → x = y ∧ c.bs.drop p' = r0) ∨ (e = .panicked CH ∧ ∀ y r0, ok y → c.bs.drop p ≠ enc y ++ r0))

set_option maxRecDepth 20000 in
set_option maxHeartbeats 4000000 in
theorem rn_any (c : Cx) (p b o : Nat) (arr : Array Value) (T : TypeId) (w : World) (h : Rt c w p) (hb : w.heap[b]? = some (.cells arr T)) (ho : o < arr.size) (hlb : c.B ≤ b) :
    Calls Tryz.prog 120 #[.pointer (some ⟨c.t, 0, none⟩), .pointer (some ⟨b, o, none⟩)] w (Got c p b (fun W z => I64 z ∧ W.heap[b]? = some (.cells (arr.setIfInBounds o (.int .i64 z)) T)) I64 numL w) := by
  have H : Hid (Rt c w p) := h
  have HB : Hid (w.heap[b]? = some (.cells arr T)) := hb
  have r1 := h.c1
  have hbt : b ≠ c.t := by have := h.lt; omega
  clear h hb
  go_enter Tryz.func120, Tryz.ntmps120
  go_wp2_with fail
  refine (rg_any c p w H.out).mono ?_
  rintro e w1 ⟨hk, ⟨V, p', rfl, hV, hpp, hr, hq⟩ | ⟨rfl, hx⟩⟩
  · have hb1 : w1.heap[b]? = some (.cells arr T) := Bs.blkn (b := b) hk HB.out hbt
    obtain ⟨y0, e0⟩ : ∃ y, w1.cell? ⟨b, o, none⟩ = some y := ⟨arr[o]'ho, by rw [blk_cell hb1]; simp⟩
    have z := blk_frozen hb1 o
    have HB1 : Hid (w1.heap[b]? = some (.cells arr T)) := hb1
    have HR : Hid (Rt c w1 p') := hr
    have HQ : Hid (∀ x r0, I64 x → c.bs.drop p = numL x ++ r0 → V = zig x ∧ c.bs.drop p' = r0) := hq
    clear hb1 hr hq HB H r1
    go_wp2_with (go_at_call 148; refine (unf_any V _ hV).mono ?_; rintro e w2 ⟨rfl, rfl⟩)
    go_end0
    exact ⟨hk.to.set_b _ _, .inl ⟨fin V, p', rfl, hpp, HR.out.put hlb _ _, ⟨fin_i64 hV, blk_set HB1.out o _⟩, fun y r0 hy hd => by
      obtain ⟨h1, h2⟩ := HQ.out y r0 hy hd
      exact ⟨by rw [h1]; exact fin_zig hy, h2⟩⟩⟩
  · exact ⟨rfl, hk.to, .inr ⟨rfl, hx⟩⟩
end Go.Proofs.YtfkeklndcjkgcaaGreatDoor

/-
  OWN WORK. The program's tape that is read: wholes, counts.
-/
namespace Go.Proofs.YtfkeklndcjkgcaaGreatDoor
open Go.RowKit
attribute [local go_sem] run_store_float
set_option linter.unusedVariables false
set_option linter.unusedSimpArgs false

/-- Numbers laid into a block. -/
def setA (arr : Array Value) : List Nat → List Int → Array Value
  | o :: os, z :: zs => setA (arr.setIfInBounds o (.int .i64 z)) os zs
  | _, _ => arr
theorem setA_snoc : ∀ (os : List Nat) (zs : List Int) (arr : Array Value) (o : Nat) (z : Int), zs.length = os.length → setA arr (os ++ [o]) (zs ++ [z]) = (setA arr os zs).setIfInBounds o (.int .i64 z)
  | [], [], _, _, _, _ => rfl
  | o' :: os, z' :: zs, arr, o, z, h => by
    show setA (arr.setIfInBounds o' (.int .i64 z')) (os ++ [o]) (zs ++ [z]) = _
    rw [setA_snoc os zs _ o z (by simpa using h)]
    rfl
  | [], z' :: zs, _, _, _, h => by simp at h
  | o' :: os, [], _, _, _, h => by simp at h
theorem setA_int : ∀ (os : List Nat) (zs : List Int) (arr : Array Value) (q : Nat), (∃ z, arr[q]? = some (.int .i64 z)) → ∃ z, (setA arr os zs)[q]? = some (.int .i64 z)
  | o :: os, z :: zs, arr, q, h => by
    refine setA_int os zs _ q ?_
    obtain ⟨z0, h0⟩ := h
    rw [Array.getElem?_setIfInBounds]
    by_cases he : o = q
    · rw [if_pos he, if_pos (by rw [he]; exact (Array.getElem?_eq_some_iff.1 h0).1)]
      exact ⟨z, rfl⟩
    · rw [if_neg he]
      exact ⟨z0, h0⟩
  | [], _, arr, q, h => by cases h with | intro z h => exact ⟨z, by unfold setA; exact h⟩
  | o :: os, [], arr, q, h => by cases h with | intro z h => exact ⟨z, by unfold setA; exact h⟩

set_option maxRecDepth 20000 in
set_option maxHeartbeats 4000000 in
theorem rw_any (c : Cx) (p b ga cap : Nat) (os : List Nat) (arr : Array Value) (T T' : TypeId) (n : Nat) (w : World) (h : Rt c w p) (hb : w.heap[b]? = some (.cells arr T)) (hlb : c.B ≤ b)
    (hg : w.heap[ga]? = some (.cells (os.map fun o => Value.pointer (some ⟨b, o, none⟩)).toArray T')) (hga : ga ≠ b) (hgt : ga ≠ c.t) (hi : ∀ o ∈ os, ∃ z, arr[o]? = some (.int .i64 z)) (hn : n = os.length) (h0 : 0 < n) (h100 : n ≤ 100) :
    Calls Tryz.prog 110 #[.pointer (some ⟨c.t, 0, none⟩), .slice (some ⟨ga, 0, none⟩) n cap] w
      (Got c p b (fun W zs => zs.length = os.length ∧ (∀ z ∈ zs, I64 z) ∧ W.heap[b]? = some (.cells (setA arr os zs) T)) (fun xs => xs.length = os.length ∧ ∀ x ∈ xs, I64 x) (fun xs => xs.flatMap numL) w) := by
  have H : Hid (Rt c w p) := h
  have HG : Hid (w.heap[ga]? = some (.cells (os.map fun o => Value.pointer (some ⟨b, o, none⟩)).toArray T')) := hg
  have HB : Hid (w.heap[b]? = some (.cells arr T)) := hb
  have HI : Hid (∀ o ∈ os, ∃ z, arr[o]? = some (.int .i64 z)) := hi
  have HN : Hid (n = os.length) := hn
  have hbt : b ≠ c.t := by have := h.lt; omega
  clear h hg hb hi hn
  go_enter Tryz.func110, Tryz.ntmps110
  go_wp2_with fail
  go_loopw [9] (fun i wr => ∃ (m p1 : Nat) (zs : List Int), m ≤ n ∧ i = .int .i64 m ∧ p + m ≤ p1 ∧ Hid (zs.length = m) ∧ Hid (∀ z ∈ zs, I64 z) ∧ Hid (Rt c wr p1) ∧ Hid (Bs c.t b w wr) ∧ Hid (wr.heap[b]? = some (.cells (setA arr (os.take m) zs) T)) ∧ Hid (∀ (xs : List Int) r0, (xs.length = os.length ∧ ∀ x ∈ xs, I64 x) → c.bs.drop p = xs.flatMap numL ++ r0 → zs = xs.take m ∧ c.bs.drop p1 = (xs.drop m).flatMap numL ++ r0)) (fun i _ => n - (intOf i).toNat)
  case atStart => exact ⟨0, p, [], Nat.zero_le _, rfl, Nat.le_refl _, rfl, (fun z hz => by cases hz), H, Bs.refl _ _ _, HB, fun xs r0 _ hd => ⟨rfl, hd⟩⟩
  case round =>
    clear H HB
    obtain ⟨m, p1, zs, hm, rfl, hpm, HZ, HZI, H, HK, HB, HQ⟩ := hrel
    by_cases k1 : m < n
    · obtain ⟨o, ho⟩ : ∃ o, os[m]? = some o := ⟨os[m]'(by rw [← HN.out]; exact k1), by simp⟩
      have e0 : wr.cell? ⟨ga, m, none⟩ = some (.pointer (some ⟨b, o, none⟩)) := (blk_cell (HK.out.blk HG.out hgt hga) m).trans (by simp [ho])
      obtain ⟨z0, hz0⟩ := setA_int (os.take m) zs arr o (HI.out o (List.mem_of_getElem? ho))
      have e1 : wr.cell? ⟨b, o, none⟩ = some (.int .i64 z0) := (blk_cell HB.out o).trans hz0
      have hblt := blk_lt HB.out
      have hy := bw1 wr (.cells #[.int .i64 z0] 2)
      have HYR : Hid (Rt c (wr.alloc (.cells #[.int .i64 z0] 2)) p1) := H.out.later hy
      have HYK : Hid (Bs c.t b w (wr.alloc (.cells #[.int .i64 z0] 2))) := HK.out.trans (Bs.of_below hy)
      have HYB : Hid ((wr.alloc (.cells #[.int .i64 z0] 2)).heap[b]? = some (.cells (setA arr (os.take m) zs) T)) := blk_old HB.out _
      have hws : w.heap.size ≤ wr.heap.size := HK.out.size
      have hBs : c.B ≤ wr.heap.size := H.out.hB
      have HO : Hid (os[m]? = some o) := ho
      have hosz : o < (setA arr (os.take m) zs).size := (Array.getElem?_eq_some_iff.1 hz0).1
      clear ho hz0 H HK HB hy
      go_wp2_with fail
      refine (rn_any c p1 wr.heap.size 0 #[.int .i64 z0] 2 _ HYR.out (blk_new _ _) (by simp) hBs).mono ?_
      rintro e w2 ⟨hk, ⟨z, p2, rfl, hpp, hr, ⟨hzi, hbz⟩, hq⟩ | ⟨rfl, hx⟩⟩
      · have t1 := hr.c1
        have n0 : w2.cell? ⟨wr.heap.size, 0, none⟩ = some (.int .i64 z) := (blk_cell hbz 0).trans rfl
        have hb2 : w2.heap[b]? = some (.cells (setA arr (os.take m) zs) T) := hk.blk HYB.out hbt (by omega)
        have e2 : ∃ y, w2.cell? ⟨b, o, none⟩ = some y := ⟨_, (blk_cell hb2 o).trans (Array.getElem?_eq_getElem hosz)⟩
        obtain ⟨y2, e2⟩ := e2
        have z2 := blk_frozen hb2 o
        have HB2 : Hid (w2.heap[b]? = some (.cells (setA arr (os.take m) zs) T)) := hb2
        have HR2 : Hid (Rt c w2 p2) := hr
        have HK2 : Hid (Bs c.t b w w2) := HYK.out.into hk hws
        have HQ2 : Hid (∀ y r0, I64 y → c.bs.drop p1 = numL y ++ r0 → z = y ∧ c.bs.drop p2 = r0) := hq
        have HZI2 : Hid (∀ z' ∈ zs ++ [z], I64 z') := fun z' hz' => by
          rcases List.mem_append.1 hz' with h | h
          · exact HZI.out z' h
          · rw [List.mem_singleton.1 h]; exact hzi
        clear hr hk hbz hb2 HYR HYK HYB hq e0 e1 HZI hzi
        go_wp2_with fail
        go_roundw
        case rel =>
          refine ⟨m + 1, p2, zs ++ [z], by omega, by go_num, by omega, ?_, HZI2, HR2.out.put hlb _ _, HK2.out.set_b _ _, ?_, ?_⟩
          · show (zs ++ [z]).length = m + 1
            rw [List.length_append, HZ.out]; rfl
          · show _ = some _
            have ht : os.take (m + 1) = os.take m ++ [o] := by rw [List.take_add_one, HO.out]; rfl
            rw [ht, setA_snoc _ _ _ _ _ (by rw [HZ.out, List.length_take, ← HN.out]; omega)]
            exact blk_set HB2.out o _
          · intro xs r0 hok hd
            obtain ⟨g1, g2⟩ := HQ.out xs r0 hok hd
            obtain ⟨x, hx⟩ : ∃ x, xs[m]? = some x := ⟨xs[m]'(by rw [hok.1, ← HN.out]; exact k1), by simp⟩
            rw [flatMap_drop _ hx, List.append_assoc] at g2
            obtain ⟨g3, g4⟩ := HQ2.out x _ (hok.2 x (List.mem_of_getElem? hx)) g2
            exact ⟨by rw [List.take_add_one, hx, g1, g3]; rfl, g4⟩
        case measure => simp [intOf]; omega
      · refine ⟨rfl, HYK.out.into hk hws, .inr ⟨rfl, fun xs r0 hok hd => ?_⟩⟩
        obtain ⟨g1, g2⟩ := HQ.out xs r0 hok hd
        obtain ⟨x, hx'⟩ : ∃ x, xs[m]? = some x := ⟨xs[m]'(by rw [hok.1, ← HN.out]; exact k1), by simp⟩
        rw [flatMap_drop _ hx', List.append_assoc] at g2
        exact hx x _ (hok.2 x (List.mem_of_getElem? hx')) g2
    · have hmn : m = n := by omega
      go_wp2_with fail
      go_end0
      have hto : os.take m = os := List.take_of_length_le (by rw [hmn, HN.out]; exact Nat.le_refl _)
      have HB' := HB.out
      rw [hto] at HB'
      refine ⟨HK.out, .inl ⟨zs, p1, rfl, by omega, H.out, ⟨by rw [HZ.out, hmn, HN.out], HZI.out, HB'⟩, fun xs r0 hok hd => ?_⟩⟩
      obtain ⟨g1, g2⟩ := HQ.out xs r0 hok hd
      rw [fdrop_end (by rw [hok.1, ← HN.out, hmn]; exact Nat.le_refl _), List.nil_append] at g2
      exact ⟨by rw [g1, List.take_of_length_le (by rw [hok.1, ← HN.out, hmn]; exact Nat.le_refl _)], g2⟩
end Go.Proofs.YtfkeklndcjkgcaaGreatDoor

/-
  OWN WORK. The program's tape that is read: counts, texts, flags.
-/
namespace Go.Proofs.YtfkeklndcjkgcaaGreatDoor
open Go.RowKit
attribute [local go_sem] run_store_float
set_option linter.unusedVariables false
set_option linter.unusedSimpArgs false

/-- A length is read, or the tape ends. -/
def CntW (c : Cx) (p : Nat) (w : World) (e : Ending) (w' : World) : Prop :=
  Bs c.t c.t w w' ∧ ((∃ k p' : Nat, e = .returned (.int .i64 (k : Int)) ∧ p < p' ∧ p' + k ≤ c.n ∧ Rt c w' p' ∧ ∀ (m : Nat) r0, m ≤ r0.length → c.bs.drop p = numL (m : Int) ++ r0 → k = m ∧ c.bs.drop p' = r0) ∨ (e = .panicked CH ∧ ∀ (m : Nat) r0, m ≤ r0.length → c.bs.drop p ≠ numL (m : Int) ++ r0))

set_option maxRecDepth 20000 in
set_option maxHeartbeats 8000000 in
theorem rcn_any (c : Cx) (p : Nat) (z0 : Int) (w : World) (h : Rt c w p) :
    Calls Tryz.prog 146 #[.pointer (some ⟨c.t, 0, none⟩), .int .i64 z0] w (CntW c p w) := by
  have H : Hid (Rt c w p) := h
  have hBw := h.hB
  have hlt := h.lt
  have hn2 := h.hn2
  have HLN : Hid (c.bs.length = c.n) := h.hn
  clear h
  have hy := bw2 w (.cells #[.int .i64 z0] 3) (.cells #[.pointer (some ⟨w.heap.size, 0, none⟩)] 159)
  have hb : ((w.alloc (.cells #[.int .i64 z0] 3)).alloc (.cells #[.pointer (some ⟨w.heap.size, 0, none⟩)] 159)).heap[w.heap.size]? = some (.cells #[.int .i64 z0] 3) := blk_old (blk_new _ _) _
  have HW := rw_any c p w.heap.size (w.heap.size + 1) 1 [0] #[.int .i64 z0] 3 159 1 _ (H.out.later hy) hb hBw (blk_newn (by simp) _) (by omega) (by omega) (fun o ho => by
    obtain rfl : o = 0 := by simpa using ho
    exact ⟨z0, rfl⟩) rfl (by omega) (by omega)
  have HY : Hid (Bs c.t c.t w ((w.alloc (.cells #[.int .i64 z0] 3)).alloc (.cells #[.pointer (some ⟨w.heap.size, 0, none⟩)] 159))) := Bs.of_below hy
  have HWH : Hid (Calls _ _ _ _ _) := HW
  clear hy hb HW
  go_enter Tryz.func146, Tryz.ntmps146
  go_wp2_with fail
  refine Calls.mono (show Calls _ _ _ _ _ from HWH.out) ?_
  rintro e w2 ⟨hk, ⟨zs, p2, rfl, hpp, hr, ⟨hzl, hzi, hbz⟩, hq⟩ | ⟨rfl, hx⟩⟩
  · obtain ⟨z, rfl⟩ : ∃ z, zs = [z] := by
      match zs, hzl with
      | [z], _ => exact ⟨z, rfl⟩
    have HK : Hid (Bs c.t c.t w w2) := HY.out.into hk (Nat.le_refl _)
    have HR : Hid (Rt c w2 p2) := hr
    have HQ : Hid (∀ x r0, I64 x → c.bs.drop p = numL x ++ r0 → z = x ∧ c.bs.drop p2 = r0) := fun x r0 hx hd => by
      obtain ⟨g1, g2⟩ := hq [x] r0 ⟨rfl, fun y hy => by rw [List.mem_singleton.1 hy]; exact hx⟩ (by simpa using hd)
      exact ⟨by simpa using g1, g2⟩
    have c0 := hr.c0
    have c1 := hr.c1
    have c2 := hr.c2
    have hp2 := hr.hp
    have n0 : w2.cell? ⟨w.heap.size, 0, none⟩ = some (.int .i64 z) := (blk_cell hbz 0).trans rfl
    clear hr hk hq hbz hzl hzi HWH HY H
    have hZ : I64 z → True := fun _ => trivial
    cases hin : inR z 0 ((c.n : Int) - (p2 : Int))
    all_goals
      have hwi := fun W => wi_any z 0 ((c.n : Int) - (p2 : Int)) W
      simp only [hin] at hwi
      have HWI : Hid _ := hwi
      clear hwi
      go_wp2_with fail
      have f0 := lat_cell c0
      have f1 := lat_cell c1
      have f2 := lat_cell c2
      have f3 := lat_cell n0
      haveI := lat_some w2
      clear c0 c1 c2 n0
      refine wp_region_lat (by kernel_rfl) (by kernel_rfl) ?_
      repeat (go_big_quiet_step ((go_at_call 95; exact lat_calls (Calls.mono (HWI.out _) fun _ _ h => ⟨h.1, h.2 ▸ Below.refl _ _⟩))))
      refine wpQuiet_nil ?_
      rintro _ ⟨nq, rfl⟩
      have g3 := f3 nq
      clear f0 f1 f2 f3
    · go_wp2_with fail
      refine ⟨rfl, HK.out.trans (Bs.of_below nq.below), .inr ⟨rfl, fun m r0 hm hd => ?_⟩⟩
      have hml : m ≤ 1000000 := by
        have h1 := congrArg List.length hd
        rw [List.length_drop, List.length_append, HLN.out] at h1
        omega
      obtain ⟨g1, g2⟩ := HQ.out (m : Int) r0 ⟨by omega, by omega⟩ hd
      have h2 := congrArg List.length g2
      rw [List.length_drop, HLN.out] at h2
      rw [g1] at hin
      simp [inR] at hin
      omega
    · have hin' : 0 ≤ z ∧ z ≤ (c.n : Int) - (p2 : Int) := by simpa [inR] using hin
      obtain ⟨k, rfl⟩ : ∃ k : Nat, z = (k : Int) := ⟨z.toNat, by omega⟩
      go_wp2_with fail
      go_ret
      refine ⟨HK.out.trans (Bs.of_below nq.below), .inl ⟨k, p2, rfl, hpp, by omega, HR.out.later nq.below, fun m r0 hm hd => ?_⟩⟩
      have hml : m ≤ 1000000 := by
        have h1 := congrArg List.length hd
        rw [List.length_drop, List.length_append, HLN.out] at h1
        omega
      obtain ⟨g1, g2⟩ := HQ.out (m : Int) r0 ⟨by omega, by omega⟩ hd
      exact ⟨by omega, g2⟩
  · refine ⟨rfl, HY.out.into hk (Nat.le_refl _), .inr ⟨rfl, fun m r0 hm hd => ?_⟩⟩
    have hml : m ≤ 1000000 := by
      have h1 := congrArg List.length hd
      rw [List.length_drop, List.length_append, HLN.out] at h1
      omega
    exact hx [(m : Int)] r0 ⟨rfl, fun y hy => by rw [List.mem_singleton.1 hy]; exact ⟨by omega, by omega⟩⟩ (by simpa using hd)

set_option maxRecDepth 20000 in
set_option maxHeartbeats 4000000 in
theorem rf_any (c : Cx) (p b o : Nat) (b0 : Bool) (arr : Array Value) (T : TypeId) (w : World) (h : Rt c w p) (hb : w.heap[b]? = some (.cells arr T)) (ho : arr[o]? = some (.bool b0)) (hlb : c.B ≤ b) :
    Calls Tryz.prog 111 #[.pointer (some ⟨c.t, 0, none⟩), .pointer (some ⟨b, o, none⟩)] w (Got c p b (fun W x => W.heap[b]? = some (.cells (arr.setIfInBounds o (.bool x)) T)) (fun _ => True) flagL w) := by
  have H : Hid (Rt c w p) := h
  have HB : Hid (w.heap[b]? = some (.cells arr T)) := hb
  have hbt : b ≠ c.t := by have := h.lt; omega
  have HLN : Hid (c.bs.length = c.n) := h.hn
  have e0 : w.cell? ⟨b, o, none⟩ = some (.bool b0) := (blk_cell hb o).trans ho
  have hos : o < arr.size := (Array.getElem?_eq_some_iff.1 ho).1
  clear h hb ho
  cases b0
  case' false =>
    go_enter Tryz.func111, Tryz.ntmps111
    go_wp2_with fail
    refine (ro_any c p 0 w H.out).mono ?_
  case' true =>
    go_enter Tryz.func111, Tryz.ntmps111
    go_wp2_with fail
    refine (ro_any c p 1 w H.out).mono ?_
  all_goals
    rintro e w1 ⟨hk, ⟨u, hu, rfl, hr⟩ | ⟨rfl, hx⟩⟩
    · have hb1 : w1.heap[b]? = some (.cells arr T) := Bs.blkn (b := b) hk HB.out hbt
      obtain ⟨y0, e1⟩ : ∃ y, w1.cell? ⟨b, o, none⟩ = some y := ⟨arr[o]'hos, by rw [blk_cell hb1]; simp⟩
      have z := blk_frozen hb1 o
      have HB1 : Hid (w1.heap[b]? = some (.cells arr T)) := hb1
      have HR : Hid (Rt c w1 (p + 1)) := hr
      have c1 := hr.c1
      have HU : Hid (c.bs[p]? = some u) := hu
      obtain ⟨k, hkk⟩ : ∃ k, k = u.toNat := ⟨_, rfl⟩
      have HKK : Hid (k = u.toNat) := hkk
      rw [← hkk]
      clear hb1 hr hu e0 hkk
      go_wp2_with fail
      go_end0
      refine ⟨hk.to.set_b _ _, .inl ⟨((k : Int) != 0), p + 1, rfl, by omega, HR.out.put hlb _ _, blk_set HB1.out o _, fun y r0 _ hd => ?_⟩⟩
      obtain ⟨g1, g2⟩ := drop_head (show c.bs.drop p = (if y then (1 : UInt8) else 0) :: r0 from hd)
      have hu := HU.out
      rw [hu] at g1
      cases g1
      refine ⟨?_, g2⟩
      rw [HKK.out]
      cases y <;> rfl
    · refine ⟨rfl, hk.to, .inr ⟨rfl, fun y r0 _ hd => ?_⟩⟩
      obtain ⟨g1, g2⟩ := drop_head (show c.bs.drop p = (if y then (1 : UInt8) else 0) :: r0 from hd)
      have := (List.getElem?_eq_some_iff.1 g1).1
      omega
end Go.Proofs.YtfkeklndcjkgcaaGreatDoor

/-
  OWN WORK. The program's tape that is read: texts.
-/
namespace Go.Proofs.YtfkeklndcjkgcaaGreatDoor
open Go.RowKit
attribute [local go_sem] run_store_float
set_option linter.unusedVariables false
set_option linter.unusedSimpArgs false

theorem Rt.rb {c : Cx} {w : World} {p : Nat} (h : Rt c w p) : RB w c.t (some ⟨c.ab, c.off, none⟩) c.bs :=
  fun i u hu => ⟨c.ab, c.off, rfl, h.ne, Nat.lt_of_lt_of_le h.lab h.hB, h.bytes i u hu⟩
theorem Rt.at {c : Cx} {w : World} {p p' : Nat} (h : Rt c w p) (hp : p' ≤ c.n) (z : Int) (hz : z = (p' : Int)) : Rt c (w.setCell ⟨c.t, 2, none⟩ (.int .i64 z)) p' :=
  h.step (b := c.B) ((Bs.refl _ _ _).set_t _ _) (Nat.le_refl _) (by rw [hz]; exact blk_set h.tp 2 _) hp

set_option maxRecDepth 20000 in
set_option maxHeartbeats 8000000 in
theorem rx_any (c : Cx) (p b o : Nat) (s0 : ByteArray) (arr : Array Value) (T : TypeId) (w : World) (h : Rt c w p) (hb : w.heap[b]? = some (.cells arr T)) (ho : arr[o]? = some (.string s0)) (hs : s0.size ≤ 1000000000) (hlb : c.B ≤ b) :
    Calls Tryz.prog 109 #[.pointer (some ⟨c.t, 0, none⟩), .pointer (some ⟨b, o, none⟩)] w (Got c p b (fun W s => s.size ≤ c.n ∧ W.heap[b]? = some (.cells (arr.setIfInBounds o (.string s)) T)) (fun _ => True) textL w) := by
  have H : Hid (Rt c w p) := h
  have HB : Hid (w.heap[b]? = some (.cells arr T)) := hb
  have hbt : b ≠ c.t := by have := h.lt; omega
  have HLN : Hid (c.bs.length = c.n) := h.hn
  have hcap := h.hcap
  have hcm := h.hcm
  have hn2 := h.hn2
  unfold maxLen at hcm
  have e0 : w.cell? ⟨b, o, none⟩ = some (.string s0) := (blk_cell hb o).trans ho
  have hos : o < arr.size := (Array.getElem?_eq_some_iff.1 ho).1
  clear h hb ho
  go_enter Tryz.func109, Tryz.ntmps109
  go_wp2_with fail
  refine (rcn_any c p (s0.size : Int) w H.out).mono ?_
  rintro e w1 ⟨hk, ⟨k, p1, rfl, hpp, hpk, hr, hq⟩ | ⟨rfl, hx⟩⟩
  · have hb1 : w1.heap[b]? = some (.cells arr T) := Bs.blkn (b := b) hk HB.out hbt
    obtain ⟨y0, e1⟩ : ∃ y, w1.cell? ⟨b, o, none⟩ = some y := ⟨arr[o]'hos, by rw [blk_cell hb1]; simp⟩
    have z := blk_frozen hb1 o
    have zt := blk_frozen hr.tp
    have HB1 : Hid (w1.heap[b]? = some (.cells arr T)) := hb1
    have c0 := hr.c0
    have c1 := hr.c1
    have c2 := hr.c2
    have HR : Hid (Rt c w1 p1) := hr
    have HQ : Hid (∀ (m : Nat) r0, m ≤ r0.length → c.bs.drop p = numL (m : Int) ++ r0 → k = m ∧ c.bs.drop p1 = r0) := hq
    have HR2 : Hid (Rt c ((w1.setCell ⟨c.t, 2, none⟩ (.int .i64 ((p1 : Int) + (k : Int)))).drew) (p1 + k)) := (HR.out.at hpk ((p1 : Int) + (k : Int)) (by omega)).later (Below.refl _ _).drew
    have hcv := txt_cut HR2.out.rb p1 k HLN.out hpk hcap
    have hps : p1 ≤ c.n := by omega
    have hcv2 := hcv
    rw [show p1 + k - p1 = k by omega] at hcv2
    have hk3 : p1 + k - p1 = k := by omega
    clear hcv hr hq hb1 e0 H
    by_cases hc : c.cap = p1
    case' pos =>
      rw [if_pos hc, hc, Nat.sub_self] at hcv2
    case' neg =>
      rw [if_neg hc] at hcv2
    all_goals
      go_wp2_with fail
      go_region
      go_wp2_with fail
      go_end0
      refine ⟨?_, .inl ⟨bOf ((c.bs.drop p1).take k), p1 + k, rfl, by omega, HR2.out.put hlb _ _, ⟨by rw [bOf_size, List.length_take, List.length_drop, HLN.out]; omega, ?_⟩, fun y r0 _ hd => ?_⟩⟩
      · exact ((hk.to.set_t _ _).trans (Bs.of_below (Below.refl _ _).drew)).set_b _ _
      · exact blk_set (w := (w1.setCell ⟨c.t, 2, none⟩ (.int .i64 ((p1 : Int) + (k : Int)))).drew) (blk_other HB1.out (Ne.symm hbt) _ _) o _
      · unfold textL at hd
        rw [List.append_assoc] at hd
        have ht : y.data.toList.length = y.size := by rw [Array.length_toList]; rfl
        obtain ⟨h1, h2⟩ := HQ.out y.size (y.data.toList ++ r0) (by rw [List.length_append, ht]; omega) hd
        refine ⟨?_, ?_⟩
        · rw [h2, h1, ← ht, List.take_left]; exact bOf_list y
        · rw [← List.drop_drop, h2, h1, ← ht, List.drop_left]
  · refine ⟨rfl, hk.to, .inr ⟨rfl, fun y r0 _ hd => ?_⟩⟩
    unfold textL at hd
    rw [List.append_assoc] at hd
    have ht : y.data.toList.length = y.size := by rw [Array.length_toList]; rfl
    exact hx y.size (y.data.toList ++ r0) (by rw [List.length_append, ht]; omega) hd
end Go.Proofs.YtfkeklndcjkgcaaGreatDoor
