import Derived.Test.YtfkeklndcjkgcaaGreatDoorEDat
import Derived.Laws.BitsAllLaws
import Derived.Laws.Bits64
import Derived.Test.YtfkeklndcjkgcaaGreatDoorEmK
import Derived.Test.YtfkeklndcjkgcaaGreatDoorEByt
import Derived.Laws.Bits128
import Derived.Laws.BytesArg
/-
  OWN WORK. Numbers read back from their groups: plain mathematics.
-/
namespace Go.Proofs.YtfkeklndcjkgcaaGreatDoor
open Go.RowKit
set_option linter.unusedVariables false
set_option linter.unusedSimpArgs false

def I64 (z : Int) : Prop := -9223372036854775808 ≤ z ∧ z ≤ 9223372036854775807
/-- The number of folded bits. -/
def fin (v : Nat) : Int := if v % 2 = 1 then -((v / 2 : Nat) : Int) - 1 else ((v / 2 : Nat) : Int)
theorem fin_zig {x : Int} (hx : I64 x) : fin (zig x) = x := by
  obtain ⟨h1, h2⟩ := hx
  unfold fin zig
  by_cases hn : x < 0
  · rw [if_pos hn, if_pos (by omega)]; omega
  · rw [if_neg hn, if_neg (by omega)]; omega
theorem fin_i64 {v : Nat} (h : v < 18446744073709551616) : I64 (fin v) := by
  unfold fin I64
  split <;> omega

/-- One group more. -/
def mixN (v c i : Nat) : Nat := v ||| (c % 128 * 2 ^ (7 * i) % 2 ^ 64)
theorem mix_lt {v c i : Nat} (h : v < 2 ^ 64) : mixN v c i < 2 ^ 64 := Nat.or_lt_two_pow h (Nat.mod_lt _ (Nat.two_pow_pos 64))
theorem mix_eq {v c i : Nat} (h : v < 2 ^ (7 * i)) (hc : c % 128 * 2 ^ (7 * i) < 2 ^ 64) : mixN v c i = v + c % 128 * 2 ^ (7 * i) := by
  unfold mixN
  rw [Nat.mod_eq_of_lt hc, Nat.or_comm, nat_join (7 * i) _ v (Nat.mul_mod_left _ _) h, Nat.add_comm]

/-- What is left of a number's groups. -/
def Tg (bs : List UInt8) (p : Nat) (r0 : List UInt8) (i Z : Nat) : Prop := bs.drop p = grpN (9 - i) (Z / 2 ^ (7 * i)) ++ r0 ∧ i ≤ 9
theorem tg_zero {bs : List UInt8} {p : Nat} {r0 : List UInt8} {x : Int} (h : bs.drop p = numL x ++ r0) : Tg bs p r0 0 (zig x) := ⟨by rw [h]; show grpN 9 (zig x) ++ r0 = grpN 9 (zig x / 2 ^ 0) ++ r0; rw [Nat.pow_zero, Nat.div_one], by omega⟩
theorem drop_head {bs r : List UInt8} {p : Nat} {c : UInt8} (h : bs.drop p = c :: r) : bs[p]? = some c ∧ bs.drop (p + 1) = r := by
  have h1 : (bs.drop p)[0]? = some c := by rw [h]; rfl
  rw [List.getElem?_drop, Nat.add_zero] at h1
  refine ⟨h1, ?_⟩
  have h2 : (bs.drop p).drop 1 = r := by rw [h]; rfl
  rw [List.drop_drop] at h2
  exact h2
theorem pow7 (i : Nat) : (2 : Nat) ^ (7 * (i + 1)) = 2 ^ (7 * i) * 128 := by
  rw [show 7 * (i + 1) = 7 * i + 7 by omega, Nat.pow_add]
theorem tg_step {bs : List UInt8} {p : Nat} {r0 : List UInt8} {i Z : Nat} (h : Tg bs p r0 i Z) (hZ : Z < 2 ^ 64) :
    ∃ c : UInt8, bs[p]? = some c ∧ c.toNat % 128 * 2 ^ (7 * i) < 2 ^ 64 ∧ ((c.toNat < 128 ∧ Z % 2 ^ (7 * i) + c.toNat % 128 * 2 ^ (7 * i) = Z ∧ bs.drop (p + 1) = r0) ∨ (128 ≤ c.toNat ∧ Z % 2 ^ (7 * i) + c.toNat % 128 * 2 ^ (7 * i) = Z % 2 ^ (7 * (i + 1)) ∧ Tg bs (p + 1) r0 (i + 1) Z)) := by
  obtain ⟨h, hi⟩ := h
  have hp := Nat.two_pow_pos (7 * i)
  have hmd := Nat.mod_add_div Z (2 ^ (7 * i))
  obtain ⟨W, hW⟩ : ∃ W, W = Z / 2 ^ (7 * i) := ⟨_, rfl⟩
  rw [← hW] at h hmd
  have hWZ : W * 2 ^ (7 * i) ≤ Z := by rw [Nat.mul_comm]; omega
  have hW9 : i = 9 → W < 128 := by
    intro h9
    rw [hW, h9, Nat.div_lt_iff_lt_mul (Nat.two_pow_pos _)]
    exact Nat.lt_of_lt_of_le hZ (by decide)
  by_cases hs : W < 128
  · have hg : grpN (9 - i) W = [UInt8.ofNat W] := by
      cases hk : 9 - i with
      | zero => rfl
      | succ k => unfold grpN; rw [if_pos hs]
    rw [hg] at h
    obtain ⟨h1, h2⟩ := drop_head h
    have hc : (UInt8.ofNat W).toNat = W := by rw [UInt8.toNat_ofNat']; omega
    refine ⟨_, h1, ?_, .inl ⟨by rw [hc]; exact hs, ?_, h2⟩⟩
    · rw [hc, Nat.mod_eq_of_lt hs]; omega
    · rw [hc, Nat.mod_eq_of_lt hs, Nat.mul_comm W]; exact hmd
  · have h9 : i < 9 := by
      rcases Nat.lt_or_ge i 9 with h9 | h9
      · exact h9
      · exact absurd (hW9 (by omega)) hs
    have hg : grpN (9 - i) W = UInt8.ofNat (W % 128 + 128) :: grpN (9 - (i + 1)) (W / 128) := by
      obtain ⟨k, hk⟩ : ∃ k, 9 - i = k + 1 := ⟨8 - i, by omega⟩
      rw [hk, show 9 - (i + 1) = k by omega]
      show (if W < 128 then _ else _) = _
      rw [if_neg hs]
    rw [hg] at h
    obtain ⟨h1, h2⟩ := drop_head h
    have hc : (UInt8.ofNat (W % 128 + 128)).toNat = W % 128 + 128 := by rw [UInt8.toNat_ofNat']; omega
    have hcm : (W % 128 + 128) % 128 = W % 128 := by omega
    refine ⟨_, h1, ?_, .inr ⟨by rw [hc]; omega, ?_, ?_, by omega⟩⟩
    · rw [hc, hcm]
      have : W % 128 * 2 ^ (7 * i) ≤ W * 2 ^ (7 * i) := Nat.mul_le_mul_right _ (Nat.mod_le _ _)
      omega
    · rw [hc, hcm, pow7, Nat.mod_mul, ← hW, Nat.mul_comm (W % 128)]
    · rw [h2, pow7, ← Nat.div_div_eq_div_mul, ← hW]; rfl

theorem mix_bits (v c i : Nat) (hv : v < 18446744073709551616) : bits .or .u64 (v : Int) (IntKind.u64.wrap ((c : Int) % 128 * 2 ^ (7 * i))) = (mixN v c i : Int) := by
  have hw : IntKind.u64.wrap ((c : Int) % 128 * 2 ^ (7 * i)) = ((c % 128 * 2 ^ (7 * i) % 18446744073709551616 : Nat) : Int) := by
    rw [IntKind.wrap_u64, Int.natCast_emod, Int.natCast_mul, Int.natCast_pow, Int.natCast_emod]
    rfl
  rw [hw, u64_or_nat _ _ hv (Nat.mod_lt _ (by decide))]
  rfl
theorem and_one (V : Nat) (h : V < 18446744073709551616) : bits .and .u64 (V : Int) 1 = ((V % 2 : Nat) : Int) := by
  have := u64_and_nat V 1 h (by omega)
  rw [Nat.and_one_is_mod] at this
  exact this
theorem not_i64 (m : Nat) (h : m < 9223372036854775808) : bits .xor .i64 (-1) (m : Int) = -(m : Int) - 1 := by
  show IntKind.i64.wrap ((BitVec.ofInt 64 (-1) ^^^ BitVec.ofInt 64 (m : Int)).toNat : Int) = _
  have e1 : BitVec.ofInt 64 (-1) = BitVec.allOnes 64 := by decide
  have e2 : BitVec.ofInt 64 (m : Int) = BitVec.ofNat 64 m := by simp
  rw [e1, e2, BitVec.xor_comm, BitVec.xor_allOnes, BitVec.toNat_not, BitVec.toNat_ofNat, IntKind.wrap_i64]
  have : m % 2 ^ 64 = m := Nat.mod_eq_of_lt (by omega)
  rw [this]
  omega
theorem fin_odd {V : Nat} (h : V % 2 = 1) : fin V = -((V / 2 : Nat) : Int) - 1 := by unfold fin; rw [if_pos h]
theorem fin_even {V : Nat} (h : ¬ V % 2 = 1) : fin V = ((V / 2 : Nat) : Int) := by unfold fin; rw [if_neg h]
end Go.Proofs.YtfkeklndcjkgcaaGreatDoor

/-
  OWN WORK. The specification's reader: bytes and numbers.
-/
namespace Go.Proofs.YtfkeklndcjkgcaaGreatDoor
open Go.RowKit
attribute [local go_sem] run_store_float
set_option linter.unusedVariables false
set_option linter.unusedSimpArgs false

abbrev RSO (a : Option Addr) (n cap p : Nat) (bd : Bool) : Obj := .cells #[.slice a n cap, .int .i64 (p : Int), .bool bd] 82
/-- The reader's block. -/
def RS (w : World) (g : Nat) (a : Option Addr) (n cap p : Nat) (bd : Bool) : Prop := w.heap[g]? = some (RSO a n cap p bd)
/-- The bytes that it reads lie elsewhere. -/
def RB (w : World) (g : Nat) (a : Option Addr) (bs : List UInt8) : Prop := ∀ (i : Nat) (u : UInt8), bs[i]? = some u → ∃ b off, a = some ⟨b, off, none⟩ ∧ b ≠ g ∧ b < w.heap.size ∧ w.cell? ⟨b, off + i, none⟩ = some (.int .u8 (u.toNat : Int))
/-- All but one block is as it was. -/
structure B1 (g : Nat) (w w' : World) : Prop where
  os : w'.os = w.os
  tape : w'.tape = w.tape
  output : w'.output = w.output
  size : w.heap.size ≤ w'.heap.size
  block : ∀ j, j < w.heap.size → j ≠ g → w'.heap[j]? = w.heap[j]?
theorem B1.refl (g : Nat) (w : World) : B1 g w w := ⟨rfl, rfl, rfl, Nat.le_refl _, fun _ _ _ => rfl⟩
theorem B1.trans {g : Nat} {w w1 w2 : World} (h : B1 g w w1) (h' : B1 g w1 w2) : B1 g w w2 :=
  ⟨h'.os.trans h.os, h'.tape.trans h.tape, h'.output.trans h.output, Nat.le_trans h.size h'.size, fun j hj hn => (h'.block j (Nat.lt_of_lt_of_le hj h.size) hn).trans (h.block j hj hn)⟩
theorem B1.of_below {g : Nat} {w w' : World} (h : Below w.heap.size w w') : B1 g w w' := ⟨h.os, h.tape, h.output, h.size, fun j hj _ => h.block j hj⟩
theorem B1.set {g : Nat} {w w' : World} (h : B1 g w w') (j : Nat) (v : Value) : B1 g w (w'.setCell ⟨g, j, none⟩ v) :=
  ⟨h.os, h.tape, h.output, by simpa using h.size, fun q hq hn => by rw [Below.heap_setCell _ _ _ _ (by show q ≠ g; exact hn)]; exact h.block q hq hn⟩
theorem RB.b1 {w w' : World} {g : Nat} {a : Option Addr} {bs : List UInt8} (h : RB w g a bs) (hb : B1 g w w') : RB w' g a bs := by
  intro i u hu
  obtain ⟨b, off, h1, h2, h3, h4⟩ := h i u hu
  exact ⟨b, off, h1, h2, Nat.lt_of_lt_of_le h3 hb.size, by
    have e := hb.block b h3 h2
    unfold World.cell? at h4 ⊢
    rw [e]; exact h4⟩

set_option maxRecDepth 20000 in
set_option maxHeartbeats 4000000 in
theorem rbyte_in (g : Nat) (a : Option Addr) (n cap p : Nat) (bd : Bool) (u : UInt8) (bs : List UInt8) (w : World) (h : RS w g a n cap p bd) (hb : RB w g a bs) (hn : bs.length = n) (hn2 : n ≤ 1000000) (hu : bs[p]? = some u) :
    Calls Tryz.prog 76 #[.pointer (some ⟨g, 0, none⟩)] w fun e w' => e = .returned (.int .i64 (u.toNat : Int)) ∧ RS w' g a n cap (p + 1) bd ∧ B1 g w w' := by
  have hp : p < n := by have := (List.getElem?_eq_some_iff.1 hu).1; omega
  obtain ⟨b, off, rfl, hbg, _, hc⟩ := hb p u hu
  have H : Hid (RS w g (some ⟨b, off, none⟩) n cap p bd) := h
  have r0 : w.cell? ⟨g, 0, none⟩ = some (.slice (some ⟨b, off, none⟩) n cap) := (blk_cell h 0).trans rfl
  have r1 : w.cell? ⟨g, 1, none⟩ = some (.int .i64 (p : Int)) := (blk_cell h 1).trans rfl
  have z := blk_frozen h
  have hu0 : 0 ≤ (u.toNat : Int) := by omega
  have hu1 : (u.toNat : Int) ≤ 255 := by have := u.toNat_lt; omega
  clear h hb hu
  go_enter Tryz.func76, Tryz.ntmps76
  go_wp2_with fail
  go_region
  go_wp2_with fail
  go_region
  go_wp2_with fail
  go_ret
  refine ⟨by first | rfl | (congr 2; rw [IntKind.wrap_i64]; omega), blk_set H.out 1 _, ((B1.refl _ _).set _ _).trans (B1.of_below ((Below.refl _ _).drew).drew)⟩

set_option maxRecDepth 20000 in
set_option maxHeartbeats 4000000 in
theorem rbyte_out (g : Nat) (a : Option Addr) (n cap : Nat) (bd : Bool) (w : World) (h : RS w g a n cap n bd) (hn2 : n ≤ 1000000) :
    Calls Tryz.prog 76 #[.pointer (some ⟨g, 0, none⟩)] w fun e w' => e = .returned (.int .i64 0) ∧ RS w' g a n cap n true ∧ B1 g w w' := by
  have H : Hid (RS w g a n cap n bd) := h
  have r0 : w.cell? ⟨g, 0, none⟩ = some (.slice a n cap) := (blk_cell h 0).trans rfl
  have r1 : w.cell? ⟨g, 1, none⟩ = some (.int .i64 (n : Int)) := (blk_cell h 1).trans rfl
  have r2 : w.cell? ⟨g, 2, none⟩ = some (.bool bd) := (blk_cell h 2).trans rfl
  have z := blk_frozen h
  clear h
  go_enter Tryz.func76, Tryz.ntmps76
  go_wp2_with fail
  go_region
  go_wp2_with fail
  go_ret
  exact ⟨rfl, blk_set H.out 2 _, (B1.of_below (Below.refl _ _).drew).set _ _⟩

/-- One byte, or the end. -/
theorem rbyte_any (g : Nat) (a : Option Addr) (n cap p : Nat) (bd : Bool) (bs : List UInt8) (w : World) (h : RS w g a n cap p bd) (hb : RB w g a bs) (hn : bs.length = n) (hn2 : n ≤ 1000000) (hp : p ≤ n) :
    Calls Tryz.prog 76 #[.pointer (some ⟨g, 0, none⟩)] w fun e w' => ∃ (c p' : Nat) (bd' : Bool), e = .returned (.int .i64 (c : Int)) ∧ c < 256 ∧ RS w' g a n cap p' bd' ∧ B1 g w w' ∧ p ≤ p' ∧ p' ≤ n ∧ (bd' = false → bd = false ∧ p < p') ∧ (∀ u, bs[p]? = some u → c = u.toNat ∧ p' = p + 1 ∧ bd' = bd) := by
  cases hu : bs[p]? with
  | some u =>
    have hlt := (List.getElem?_eq_some_iff.1 hu).1
    refine (rbyte_in g a n cap p bd u bs w h hb hn hn2 hu).mono fun e w' q => ?_
    exact ⟨u.toNat, p + 1, bd, q.1, by have := u.toNat_lt; omega, q.2.1, q.2.2, by omega, by omega, fun hf => ⟨hf, by omega⟩, fun v hv => by cases hv; exact ⟨rfl, rfl, rfl⟩⟩
  | none =>
    have hge := List.getElem?_eq_none_iff.1 hu
    obtain rfl : p = n := by omega
    refine (rbyte_out g a p cap bd w h hn2).mono fun e w' q => ?_
    exact ⟨0, p, true, q.1, by omega, q.2.1, q.2.2, by omega, by omega, fun hf => (by cases hf), fun v hv => by cases hv⟩

/-- What reading a number gives. -/
def NumR (g : Nat) (a : Option Addr) (n cap p : Nat) (bd : Bool) (bs : List UInt8) (w : World) (e : Ending) (w' : World) : Prop :=
  ∃ (z : Int) (p' : Nat) (bd' : Bool), e = .returned (.int .i64 z) ∧ I64 z ∧ RS w' g a n cap p' bd' ∧ B1 g w w' ∧ p ≤ p' ∧ p' ≤ n ∧ (bd' = false → bd = false ∧ p < p') ∧ (∀ x r0, I64 x → bs.drop p = numL x ++ r0 → z = x ∧ bs.drop p' = r0 ∧ bd' = bd)
theorem NumR.intro {g : Nat} {a : Option Addr} {n cap p : Nat} {bd : Bool} {bs : List UInt8} {w : World} {e : Ending} {w' : World} (z : Int) (p' : Nat) (bd' : Bool) (h1 : e = .returned (.int .i64 z)) (h2 : I64 z) (h3 : RS w' g a n cap p' bd') (h4 : B1 g w w') (h5 : p ≤ p') (h6 : p' ≤ n) (h8 : bd' = false → bd = false ∧ p < p') (h7 : ∀ x r0, I64 x → bs.drop p = numL x ++ r0 → z = x ∧ bs.drop p' = r0 ∧ bd' = bd) : NumR g a n cap p bd bs w e w' :=
  ⟨z, p', bd', h1, h2, h3, h4, h5, h6, h8, h7⟩

set_option maxRecDepth 20000 in
set_option maxHeartbeats 8000000 in
theorem rnum_any (g : Nat) (a : Option Addr) (n cap p : Nat) (bd : Bool) (bs : List UInt8) (w : World) (h : RS w g a n cap p bd) (hb : RB w g a bs) (hn : bs.length = n) (hn2 : n ≤ 1000000) (hp : p ≤ n) :
    Calls Tryz.prog 74 #[.pointer (some ⟨g, 0, none⟩)] w (NumR g a n cap p bd bs w) := by
  have H : Hid (RS w g a n cap p bd) := h
  have HB : Hid (RB w g a bs) := hb
  have HN : Hid (bs.length = n) := hn
  clear h hb hn
  go_enter Tryz.func74, Tryz.ntmps74
  go_wp2_with fail
  go_loopw [3, 4] (fun uu ii wr => ∃ (i v p1 : Nat) (bd1 : Bool), i ≤ 10 ∧ ii = .int .i64 (i : Int) ∧ uu = .int .u64 (v : Int) ∧ v < 18446744073709551616 ∧ p ≤ p1 ∧ p1 ≤ n ∧ Hid (RS wr g a n cap p1 bd1) ∧ Hid (B1 g w wr) ∧ Hid (bd1 = false → bd = false ∧ p + i ≤ p1) ∧ Hid (∀ x r0, I64 x → bs.drop p = numL x ++ r0 → Tg bs p1 r0 i (zig x) ∧ v = zig x % 2 ^ (7 * i) ∧ bd1 = bd)) (fun _ ii _ => 10 - (intOf ii).toNat)
  case atStart => exact ⟨0, 0, p, bd, by omega, rfl, rfl, by omega, Nat.le_refl _, hp, H, B1.refl _ _, fun hf => ⟨hf, Nat.le_refl _⟩, fun x r0 hx hd => ⟨tg_zero hd, by rw [Nat.mul_zero, Nat.pow_zero, Nat.mod_one], rfl⟩⟩
  case round =>
    clear H
    obtain ⟨i, v, p1, bd1, hi, rfl, rfl, hv, hp1, hp2, H, HK, HF, HI⟩ := hrel
    by_cases k1 : i < 10
    · go_wp2_with fail
      refine (rbyte_any g a n cap p1 bd1 bs wr H.out (HB.out.b1 HK.out) HN.out hn2 hp2).mono ?_
      rintro e w1 ⟨c, p2, bd2, rfl, hc, hr, hk, hq1, hq2, hf, hq⟩
      have HF2 : Hid (bd2 = false → bd = false ∧ p + (i + 1) ≤ p2) := fun h => by
        obtain ⟨h1, h2⟩ := hf h
        obtain ⟨h3, h4⟩ := HF.out h1
        exact ⟨h3, by omega⟩
      have H2 : Hid (RS w1 g a n cap p2 bd2) := hr
      have HK2 : Hid (B1 g w w1) := HK.out.trans hk
      have HQ : Hid (∀ u, bs[p1]? = some u → c = u.toNat ∧ p2 = p1 + 1 ∧ bd2 = bd1) := hq
      clear hr hk hq H HK hf HF
      have e1 := i64_and127 (c : Int)
      obtain ⟨V, hV⟩ : ∃ V, V = mixN v c i := ⟨_, rfl⟩
      have HV : Hid (V = mixN v c i) := hV
      have e2 := mix_bits v c i hv
      rw [← hV] at e2
      have hV2 : V < 18446744073709551616 := by rw [hV]; exact mix_lt hv
      clear hV
      by_cases k2 : c < 128
      · have k3 : (c : Int) < 128 := by omega
        have HFX : Hid (∀ x r0, I64 x → bs.drop p = numL x ++ r0 → V = zig x ∧ bs.drop p2 = r0 ∧ bd2 = bd) := by
          intro x r0 hx hd
          obtain ⟨ht, hvz, hbd⟩ := HI.out x r0 hx hd
          obtain ⟨u, hu, hlt, hcase⟩ := tg_step ht (by have := zig_lt x; simpa using this)
          obtain ⟨hcu, hp3, hb3⟩ := HQ.out u hu
          rw [← hcu] at hlt hcase
          rcases hcase with ⟨_, h1, h2⟩ | ⟨h1, _⟩
          · refine ⟨?_, by rw [hp3]; exact h2, by rw [hb3, hbd]⟩
            rw [HV.out, mix_eq (by rw [hvz]; exact Nat.mod_lt _ (Nat.two_pow_pos _)) hlt, hvz]
            exact h1
          · omega
        clear HI HQ
        by_cases k4 : V % 2 = 1
        · have e3 : bits .and .u64 (V : Int) 1 = 1 := by rw [and_one V hV2, k4]; rfl
          have e4 : bits .xor .i64 (-1) ((V : Int) / 2) = -((V : Int) / 2) - 1 := by have := not_i64 (V / 2) (by omega); simpa using this
          go_wp2_with fail
          go_ret
          refine NumR.intro (fin V) p2 bd2 ?_ (fin_i64 hV2) H2.out HK2.out (by omega) hq2 (fun h => ⟨(HF2.out h).1, by have := (HF2.out h).2; omega⟩) (fun x r0 hx hd => ?_)
          · rw [fin_odd k4]; rfl
          · obtain ⟨h1, h2, h3⟩ := HFX.out x r0 hx hd
            exact ⟨by rw [h1]; exact fin_zig hx, h2, h3⟩
        · have e3 : bits .and .u64 (V : Int) 1 = 0 := by rw [and_one V hV2, show V % 2 = 0 by omega]; rfl
          go_wp2_with fail
          go_ret
          refine NumR.intro (fin V) p2 bd2 ?_ (fin_i64 hV2) H2.out HK2.out (by omega) hq2 (fun h => ⟨(HF2.out h).1, by have := (HF2.out h).2; omega⟩) (fun x r0 hx hd => ?_)
          · rw [fin_even k4]; rfl
          · obtain ⟨h1, h2, h3⟩ := HFX.out x r0 hx hd
            exact ⟨by rw [h1]; exact fin_zig hx, h2, h3⟩
      · have k3 : ¬ (c : Int) < 128 := by omega
        have HFX : Hid (∀ x r0, I64 x → bs.drop p = numL x ++ r0 → Tg bs p2 r0 (i + 1) (zig x) ∧ V = zig x % 2 ^ (7 * (i + 1)) ∧ bd2 = bd) := by
          intro x r0 hx hd
          obtain ⟨ht, hvz, hbd⟩ := HI.out x r0 hx hd
          obtain ⟨u, hu, hlt, hcase⟩ := tg_step ht (by have := zig_lt x; simpa using this)
          obtain ⟨hcu, hp3, hb3⟩ := HQ.out u hu
          rw [← hcu] at hlt hcase
          rcases hcase with ⟨h1, _⟩ | ⟨_, h1, h2⟩
          · omega
          · refine ⟨by rw [hp3]; exact h2, ?_, by rw [hb3, hbd]⟩
            rw [HV.out, mix_eq (by rw [hvz]; exact Nat.mod_lt _ (Nat.two_pow_pos _)) hlt, hvz]
            exact h1
        clear HI HQ
        go_wp2_with fail
        go_roundw
        case rel => exact ⟨i + 1, V, p2, bd2, by omega, by go_num, rfl, hV2, by omega, hq2, H2, HK2, HF2, HFX⟩
        case measure => simp [intOf]; omega
    · obtain rfl : i = 10 := by omega
      have r2 : wr.cell? ⟨g, 2, none⟩ = some (.bool bd1) := (blk_cell H.out 2).trans rfl
      have z := blk_frozen H.out
      go_wp2_with fail
      go_ret
      refine NumR.intro 0 p1 true rfl ⟨by omega, by omega⟩ (blk_set H.out 2 _) (HK.out.set _ _) hp1 hp2 (fun h => by cases h) (fun x r0 hx hd => ?_)
      obtain ⟨⟨_, ht⟩, _⟩ := HI.out x r0 hx hd
      omega
end Go.Proofs.YtfkeklndcjkgcaaGreatDoor

/-
  OWN WORK. The specification's reader: counts and texts.
-/
namespace Go.Proofs.YtfkeklndcjkgcaaGreatDoor
open Go.RowKit
attribute [local go_sem] run_store_float
set_option linter.unusedVariables false
set_option linter.unusedSimpArgs false

theorem RS.later {w w' : World} {g : Nat} {a : Option Addr} {n cap p : Nat} {bd : Bool} (h : RS w g a n cap p bd) (hb : Below w.heap.size w w') : RS w' g a n cap p bd := blk_later hb h

/-- What reading a count gives. -/
def CntR (g : Nat) (a : Option Addr) (n cap p : Nat) (bd : Bool) (bs : List UInt8) (w : World) (e : Ending) (w' : World) : Prop :=
  ∃ (k p' : Nat) (bd' : Bool), e = .returned (.int .i64 (k : Int)) ∧ RS w' g a n cap p' bd' ∧ B1 g w w' ∧ p ≤ p' ∧ p' + k ≤ n ∧ (bd' = false → bd = false ∧ p < p') ∧ (∀ (m : Nat) r0, m ≤ r0.length → bs.drop p = numL (m : Int) ++ r0 → k = m ∧ bs.drop p' = r0 ∧ bd' = bd)
theorem CntR.intro {g : Nat} {a : Option Addr} {n cap p : Nat} {bd : Bool} {bs : List UInt8} {w : World} {e : Ending} {w' : World} (k p' : Nat) (bd' : Bool) (h1 : e = .returned (.int .i64 (k : Int))) (h3 : RS w' g a n cap p' bd') (h4 : B1 g w w') (h5 : p ≤ p') (h6 : p' + k ≤ n) (h8 : bd' = false → bd = false ∧ p < p') (h7 : ∀ (m : Nat) r0, m ≤ r0.length → bs.drop p = numL (m : Int) ++ r0 → k = m ∧ bs.drop p' = r0 ∧ bd' = bd) : CntR g a n cap p bd bs w e w' :=
  ⟨k, p', bd', h1, h3, h4, h5, h6, h8, h7⟩

set_option maxRecDepth 20000 in
set_option maxHeartbeats 8000000 in
theorem rcount_any (g : Nat) (a : Option Addr) (n cap p : Nat) (bd : Bool) (bs : List UInt8) (w : World) (h : RS w g a n cap p bd) (hb : RB w g a bs) (hn : bs.length = n) (hn2 : n ≤ 1000000) (hp : p ≤ n) :
    Calls Tryz.prog 37 #[.pointer (some ⟨g, 0, none⟩)] w (CntR g a n cap p bd bs w) := by
  have HC : Hid (Calls _ _ _ _ _) := rnum_any g a n cap p bd bs w h hb hn hn2 hp
  have HN : Hid (bs.length = n) := hn
  clear h hb hn
  go_enter Tryz.func37, Tryz.ntmps37
  go_wp2_with fail
  refine Calls.mono (show Calls _ _ _ _ _ from HC.out) ?_
  rintro e w1 ⟨z, p1, bd1, rfl, hz, hr, hk, hq1, hq2, hf, hq⟩
  have HF : Hid (bd1 = false → bd = false ∧ p < p1) := hf
  clear hf
  have H1 : Hid (RS w1 g a n cap p1 bd1) := hr
  have HK : Hid (B1 g w w1) := hk
  have HQ : Hid (∀ x r0, I64 x → bs.drop p = numL x ++ r0 → z = x ∧ bs.drop p1 = r0 ∧ bd1 = bd) := hq
  have r0 : w1.cell? ⟨g, 0, none⟩ = some (.slice a n cap) := (blk_cell hr 0).trans rfl
  have r1 : w1.cell? ⟨g, 1, none⟩ = some (.int .i64 (p1 : Int)) := (blk_cell hr 1).trans rfl
  have r2 : w1.cell? ⟨g, 2, none⟩ = some (.bool bd1) := (blk_cell hr 2).trans rfl
  have zz := blk_frozen hr
  clear hr hk hq HC
  obtain ⟨hz1, hz2⟩ := hz
  by_cases k1 : z < 0
  · have d1 : decide (z < 0) = true := by simpa using k1
    go_wp2_with fail
    have l0 := lat_cell r0
    have l1 := lat_cell r1
    haveI := lat_some w1
    clear r0 r1 r2 zz
    refine wp_region_lat (by kernel_rfl) (by kernel_rfl) ?_
    repeat (go_big_quiet_step (fail))
    refine wpQuiet_nil ?_
    rintro _ ⟨nq, rfl⟩
    obtain ⟨w2, hw2⟩ : ∃ w2, w2 = nq.wd := ⟨_, rfl⟩
    have hx : Below w1.heap.size w1 w2 := by rw [hw2]; exact nq.below
    rw [← hw2]
    replace H1 : Hid (RS w2 g a n cap p1 bd1) := RS.later H1.out hx
    replace HK : Hid (B1 g w w2) := HK.out.trans (B1.of_below hx)
    have r2 : w2.cell? ⟨g, 2, none⟩ = some (.bool bd1) := (blk_cell H1.out 2).trans rfl
    have zz := blk_frozen H1.out
    clear l0 l1 hw2 nq hx
    go_wp2_with fail
    go_ret
    refine CntR.intro 0 p1 true rfl (blk_set H1.out 2 _) (HK.out.set _ _) hq1 (by omega) (fun h => by cases h) (fun m q hm hd => ?_)
    obtain ⟨h1, _⟩ := HQ.out (m : Int) q ⟨by omega, by have := congrArg List.length hd; have h3 := HN.out; simp only [List.length_drop, List.length_append] at this; omega⟩ hd
    omega
  · have d1 : decide (z < 0) = false := by simpa using k1
    by_cases k2 : (n : Int) - (p1 : Int) < z
    · go_wp2_with fail
      have l0 := lat_cell r0
      have l1 := lat_cell r1
      haveI := lat_some w1
      clear r0 r1 r2 zz
      refine wp_region_lat (by kernel_rfl) (by kernel_rfl) ?_
      repeat (go_big_quiet_step (fail))
      refine wpQuiet_nil ?_
      rintro _ ⟨nq, rfl⟩
      obtain ⟨w2, hw2⟩ : ∃ w2, w2 = nq.wd := ⟨_, rfl⟩
      have hx : Below w1.heap.size w1 w2 := by rw [hw2]; exact nq.below
      rw [← hw2]
      replace H1 : Hid (RS w2 g a n cap p1 bd1) := RS.later H1.out hx
      replace HK : Hid (B1 g w w2) := HK.out.trans (B1.of_below hx)
      have r2 : w2.cell? ⟨g, 2, none⟩ = some (.bool bd1) := (blk_cell H1.out 2).trans rfl
      have zz := blk_frozen H1.out
      clear l0 l1 hw2 nq hx
      go_wp2_with fail
      go_ret
      refine CntR.intro 0 p1 true rfl (blk_set H1.out 2 _) (HK.out.set _ _) hq1 (by omega) (fun h => by cases h) (fun m q hm hd => ?_)
      have hlen := congrArg List.length hd
      have h3 := HN.out
      simp only [List.length_drop, List.length_append] at hlen
      obtain ⟨h1, h2, _⟩ := HQ.out (m : Int) q ⟨by omega, by omega⟩ hd
      have h4 := congrArg List.length h2
      simp only [List.length_drop] at h4
      omega
    · go_wp2_with fail
      have l0 := lat_cell r0
      have l1 := lat_cell r1
      haveI := lat_some w1
      clear r0 r1 r2 zz
      refine wp_region_lat (by kernel_rfl) (by kernel_rfl) ?_
      repeat (go_big_quiet_step (fail))
      refine wpQuiet_nil ?_
      rintro _ ⟨nq, rfl⟩
      obtain ⟨w2, hw2⟩ : ∃ w2, w2 = nq.wd := ⟨_, rfl⟩
      have hx : Below w1.heap.size w1 w2 := by rw [hw2]; exact nq.below
      rw [← hw2]
      replace H1 : Hid (RS w2 g a n cap p1 bd1) := RS.later H1.out hx
      replace HK : Hid (B1 g w w2) := HK.out.trans (B1.of_below hx)
      have r2 : w2.cell? ⟨g, 2, none⟩ = some (.bool bd1) := (blk_cell H1.out 2).trans rfl
      have zz := blk_frozen H1.out
      clear l0 l1 hw2 nq hx
      go_wp2_with fail
      go_ret
      obtain ⟨k, rfl⟩ : ∃ k : Nat, z = (k : Int) := ⟨z.toNat, by omega⟩
      refine CntR.intro k p1 bd1 rfl H1.out HK.out hq1 (by omega) HF.out (fun m q hm hd => ?_)
      have hlen := congrArg List.length hd
      have h3 := HN.out
      simp only [List.length_drop, List.length_append] at hlen
      obtain ⟨h1, h2, h5⟩ := HQ.out (m : Int) q ⟨by omega, by omega⟩ hd
      exact ⟨by omega, h2, h5⟩

def bOf (l : List UInt8) : ByteArray := ⟨l.toArray⟩
theorem bOf_size (l : List UInt8) : (bOf l).size = l.length := by simp [bOf, ByteArray.size]
theorem bOf_list (t : ByteArray) : bOf t.data.toList = t := by
  apply ByteArray.ext
  simp [bOf]
/-- A part of the bytes, made a string. -/
theorem txt_part {w : World} {g b off n : Nat} {bs : List UInt8} (hb : RB w g (some ⟨b, off, none⟩) bs) (p k c : Nat) (hn : bs.length = n) (hpk : p + k ≤ n) : (convert 33 9 (.slice (some ⟨b, off + p, none⟩) k c)).run Tryz.prog w = .ok (.string (bOf ((bs.drop p).take k))) w := by
  have hlen : ((bs.drop p).take k).length = k := by rw [List.length_take, List.length_drop]; omega
  refine (run_convert_bytes_arg w 33 5 Tryz.underlying33 Tryz.underlying5 b (off + p) k c (((bs.drop p).take k).map fun u => (u.toNat : Int)) (by simpa using hlen) (fun i hi => ?_) 9 Tryz.underlying9).trans ?_
  · have hip : p + i < bs.length := by omega
    obtain ⟨b', off', ha, _, _, hc⟩ := hb (p + i) _ (List.getElem?_eq_getElem hip)
    simp only [Option.some.injEq, Addr.mk.injEq, and_true] at ha
    obtain ⟨rfl, rfl⟩ := ha
    rw [show off + p + i = off + (p + i) by omega, hc]
    have : (((bs.drop p).take k).map fun u => (u.toNat : Int))[i]? = some (bs[p + i].toNat : Int) := by
      rw [List.getElem?_map, List.getElem?_take, if_pos hi, List.getElem?_drop, List.getElem?_eq_getElem hip]; rfl
    rw [List.getD_eq_getElem?_getD, this]
    rfl
  · have h : List.map ((fun n : Int => UInt8.ofNat n.toNat) ∘ fun b : UInt8 => (b.toNat : Int)) ((bs.drop p).take k) = (bs.drop p).take k := (List.map_congr_left (fun b _ => by simp)).trans (List.map_id _)
    unfold strOfNums bOf
    rw [List.map_map, h]

theorem txt_cut {w : World} {g b off n cap : Nat} {bs : List UInt8} (hb : RB w g (some ⟨b, off, none⟩) bs) (p k : Nat) (hn : bs.length = n) (hpk : p + k ≤ n) (hcap : n ≤ cap) : (convert 33 9 (.slice (if cap = p then some ⟨b, off, none⟩ else some ⟨b, off + p, none⟩) (p + k - p) (cap - p))).run Tryz.prog w = .ok (.string (bOf ((bs.drop p).take k))) w := by
  rw [show p + k - p = k by omega]
  by_cases hc : cap = p
  · obtain rfl : k = 0 := by omega
    rw [if_pos hc]
    have h := txt_part hb 0 0 (cap - p) hn (by omega)
    rw [List.take_zero] at h ⊢
    exact h
  · rw [if_neg hc]
    exact txt_part hb p k (cap - p) hn hpk

/-- What reading a text gives. -/
def TxtR (g : Nat) (a : Option Addr) (n cap p : Nat) (bd : Bool) (bs : List UInt8) (w : World) (e : Ending) (w' : World) : Prop :=
  ∃ (s : ByteArray) (p' : Nat) (bd' : Bool), e = .returned (.string s) ∧ s.size ≤ n ∧ RS w' g a n cap p' bd' ∧ B1 g w w' ∧ p ≤ p' ∧ p' ≤ n ∧ (bd' = false → bd = false ∧ p < p') ∧ (∀ t r0, bs.drop p = textL t ++ r0 → s = t ∧ bs.drop p' = r0 ∧ bd' = bd)
theorem TxtR.intro {g : Nat} {a : Option Addr} {n cap p : Nat} {bd : Bool} {bs : List UInt8} {w : World} {e : Ending} {w' : World} (s : ByteArray) (p' : Nat) (bd' : Bool) (h1 : e = .returned (.string s)) (h2 : s.size ≤ n) (h3 : RS w' g a n cap p' bd') (h4 : B1 g w w') (h5 : p ≤ p') (h6 : p' ≤ n) (h8 : bd' = false → bd = false ∧ p < p') (h7 : ∀ t r0, bs.drop p = textL t ++ r0 → s = t ∧ bs.drop p' = r0 ∧ bd' = bd) : TxtR g a n cap p bd bs w e w' :=
  ⟨s, p', bd', h1, h2, h3, h4, h5, h6, h8, h7⟩

set_option maxRecDepth 20000 in
set_option maxHeartbeats 8000000 in
theorem rtext_any (g b off n cap p : Nat) (bd : Bool) (bs : List UInt8) (w : World) (h : RS w g (some ⟨b, off, none⟩) n cap p bd) (hb : RB w g (some ⟨b, off, none⟩) bs) (hn : bs.length = n) (hn2 : n ≤ 1000000) (hcap : n ≤ cap) (hcm : cap ≤ maxLen) (hp : p ≤ n) :
    Calls Tryz.prog 75 #[.pointer (some ⟨g, 0, none⟩)] w (TxtR g (some ⟨b, off, none⟩) n cap p bd bs w) := by
  have HC : Hid (Calls _ _ _ _ _) := rcount_any g (some ⟨b, off, none⟩) n cap p bd bs w h hb hn hn2 hp
  have HN : Hid (bs.length = n) := hn
  have HB : Hid (RB w g (some ⟨b, off, none⟩) bs) := hb
  unfold maxLen at hcm
  clear h hb hn
  go_enter Tryz.func75, Tryz.ntmps75
  go_wp2_with fail
  refine Calls.mono (show Calls _ _ _ _ _ from HC.out) ?_
  rintro e w1 ⟨k, p1, bd1, rfl, hr, hk, hq1, hq2, hf, hq⟩
  have HF : Hid (bd1 = false → bd = false ∧ p < p1) := hf
  clear hf
  have H1 : Hid (RS w1 g (some ⟨b, off, none⟩) n cap p1 bd1) := hr
  have HK : Hid (B1 g w w1) := hk
  have HQ : Hid (∀ (m : Nat) r0, m ≤ r0.length → bs.drop p = numL (m : Int) ++ r0 → k = m ∧ bs.drop p1 = r0 ∧ bd1 = bd) := hq
  have r0 : w1.cell? ⟨g, 0, none⟩ = some (.slice (some ⟨b, off, none⟩) n cap) := (blk_cell hr 0).trans rfl
  have r1 : w1.cell? ⟨g, 1, none⟩ = some (.int .i64 (p1 : Int)) := (blk_cell hr 1).trans rfl
  have zz := blk_frozen hr
  have hcv := txt_cut ((HB.out.b1 HK.out).b1 (B1.of_below (Below.refl _ _).drew)) p1 k HN.out hq2 hcap
  have hps : p1 ≤ n := by omega
  have hcv2 := hcv
  rw [show p1 + k - p1 = k by omega] at hcv2
  have hk3 : p1 + k - p1 = k := by omega
  clear hcv
  clear hr hk hq HC
  by_cases hc : cap = p1
  case' pos =>
    have hc' : p1 = cap := hc.symm
    clear hc
    subst hc'
    rw [if_pos rfl, Nat.sub_self] at hcv2
  case' neg =>
    rw [if_neg hc] at hcv2
  all_goals
    go_wp2_with fail
    go_region
    go_wp2_with fail
    go_ret
    refine TxtR.intro (bOf ((bs.drop p1).take k)) (p1 + k) bd1 rfl (by rw [bOf_size, List.length_take, List.length_drop]; omega) (blk_set H1.out 1 _) ((HK.out.set _ _).trans (B1.of_below (Below.refl _ _).drew)) (by omega) hq2 (fun h => ⟨(HF.out h).1, by have := (HF.out h).2; omega⟩) (fun t q hd => ?_)
    unfold textL at hd
    rw [List.append_assoc] at hd
    have ht : t.data.toList.length = t.size := by rw [Array.length_toList]; rfl
    obtain ⟨h1, h2, h3⟩ := HQ.out t.size (t.data.toList ++ q) (by rw [List.length_append, ht]; omega) hd
    refine ⟨?_, ?_, h3⟩
    · rw [h2, h1, ← ht, List.take_left]; exact bOf_list t
    · rw [← List.drop_drop, h2, h1, ← ht, List.drop_left]
end Go.Proofs.YtfkeklndcjkgcaaGreatDoor
