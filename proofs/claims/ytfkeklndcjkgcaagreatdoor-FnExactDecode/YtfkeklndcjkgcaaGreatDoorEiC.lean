import Derived.Test.YtfkeklndcjkgcaaGreatDoorEiA
import Derived.Test.YtfkeklndcjkgcaaGreatDoorCiA
/-
  OWN WORK. The program's tape that is written: the elements of the lists.
-/
namespace Go.Proofs.YtfkeklndcjkgcaaGreatDoor
open Go.RowKit
attribute [local go_sem] run_store_float
set_option linter.unusedVariables false
set_option linter.unusedSimpArgs false

/-- Wholes whose pointers lie in a new block. -/
theorem wholes_new (B t gp gm : Nat) (l : List UInt8) (qs : List (Addr × Int)) (n : Nat) (hn : n = qs.length) (w : World) (h : Tape w B t gp gm l) (hq : qs.length ≤ 100) (hc : ∀ q ∈ qs, Sc w B t q.1 (.int .i64 q.2)) :
    Calls Tryz.prog 110 #[.pointer (some ⟨t, 0, none⟩), .slice (some ⟨w.heap.size, 0, none⟩) n n] (w.alloc (.cells (qs.map fun q => Value.pointer (some q.1)).toArray 159)) (Wrote B t gp gm w (l ++ qs.flatMap fun q => numL q.2) (.tuple #[])) := by
  have hy := bw1 w (.cells (qs.map fun q => Value.pointer (some q.1)).toArray 159)
  refine (wholes_any B t gp gm l qs w.heap.size n 159 _ (h.later hy) hq (blk_new _ _) (by decide) (by have := h.lt; omega) (fun q hm => (hc q hm).later hy) n hn).mono ?_
  intro e w' hw
  exact Wrote.trans (Kp.of_below hy) hw

theorem wholes_drew (B t gp gm : Nat) (l : List UInt8) (qs : List (Addr × Int)) (n : Nat) (hn : n = qs.length) (w : World) (h : Tape w B t gp gm l) (hq : qs.length ≤ 100) (hc : ∀ q ∈ qs, Sc w B t q.1 (.int .i64 q.2)) :
    Calls Tryz.prog 110 #[.pointer (some ⟨t, 0, none⟩), .slice (some ⟨w.heap.size, 0, none⟩) n n] (w.alloc (.cells (qs.map fun q => Value.pointer (some q.1)).toArray 159)).drew (Wrote B t gp gm w (l ++ qs.flatMap fun q => numL q.2) (.tuple #[])) := by
  have hy := (bw1 w (.cells (qs.map fun q => Value.pointer (some q.1)).toArray 159)).drew
  refine (wholes_any B t gp gm l qs w.heap.size n 159 _ (h.later hy) hq (blk_new _ _) (by decide) (by have := h.lt; omega) (fun q hm => (hc q hm).later hy) n hn).mono ?_
  intro e w' hw
  exact Wrote.trans (Kp.of_below hy) hw

set_option maxRecDepth 20000 in
set_option maxHeartbeats 4000000 in
theorem up_any (B t gp gm : Nat) (l : List UInt8) (u : UD) (b o : Nat) (w : World) (h : Tape w B t gp gm l) (h0 : Sc w B t ⟨b, o, none⟩ (.bool u.l)) (h1 : Sc w B t ⟨b, o + 1, none⟩ (.int .i64 u.i)) :
    Calls Tryz.prog 113 #[.pointer (some ⟨t, 0, none⟩), .pointer (some ⟨b, o, none⟩)] w (Wrote B t gp gm w (l ++ upL u) (.tuple #[])) := by
  have HT : Hid (Tape w B t gp gm l) := h
  have H0 : Hid (Sc w B t ⟨b, o, none⟩ (.bool u.l)) := h0
  have H1 : Hid (Sc w B t ⟨b, o + 1, none⟩ (.int .i64 u.i)) := h1
  clear h h0 h1
  go_enter Tryz.func113, Tryz.ntmps113
  go_wp2_with fail
  refine (flag_any B t gp gm l u.l ⟨b, o, none⟩ _ HT.out H0.out.1).mono ?_
  rintro e w2 ⟨hK, ⟨rfl, hT⟩ | ⟨rfl, hx⟩⟩
  · go_wp2_with fail
    refine (wholes_new B t gp gm _ [(⟨b, o + 1, none⟩, u.i)] 1 rfl w2 hT (by simp) (by simpa using H1.out.keep hK)).mono ?_
    rintro e w3 ⟨hK3, ⟨rfl, hT3⟩ | ⟨rfl, hx⟩⟩
    · go_wp2_with fail
      go_end0
      exact ⟨hK.trans hK3, .inl ⟨rfl, by unfold upL; rw [← List.append_assoc]; simpa using hT3⟩⟩
    · exact ⟨rfl, hK.trans hK3, .inr ⟨rfl, by unfold upL; rw [← List.append_assoc]; simpa using hx⟩⟩
  · exact ⟨rfl, hK, .inr ⟨rfl, wrote_len hx (b := numL u.i) (by unfold upL; rw [List.append_assoc])⟩⟩

set_option maxRecDepth 20000 in
set_option maxHeartbeats 4000000 in
theorem step_any (B t gp gm : Nat) (l : List UInt8) (u : ID) (b o : Nat) (w : World) (h : Tape w B t gp gm l) (h0 : Sc w B t ⟨b, o, none⟩ (.int .i64 u.op)) (h1 : Sc w B t ⟨b, o + 1, none⟩ (.int .i64 u.a)) (h2 : Sc w B t ⟨b, o + 2, none⟩ (.int .i64 u.b)) (h3 : Sc w B t ⟨b, o + 3, none⟩ (.int .i64 u.c)) (h4 : Sc w B t ⟨b, o + 4, none⟩ (.int .i64 u.d)) :
    Calls Tryz.prog 117 #[.pointer (some ⟨t, 0, none⟩), .pointer (some ⟨b, o, none⟩)] w (Wrote B t gp gm w (l ++ stepL u) (.tuple #[])) := by
  have HT : Hid (Tape w B t gp gm l) := h
  have hs : ∀ q ∈ [((⟨b, o, none⟩ : Addr), u.op), (⟨b, o + 1, none⟩, u.a), (⟨b, o + 2, none⟩, u.b), (⟨b, o + 3, none⟩, u.c), (⟨b, o + 4, none⟩, u.d)], Sc w B t q.1 (.int .i64 q.2) := by simp [h0, h1, h2, h3, h4]
  have HS : Hid (∀ q ∈ [((⟨b, o, none⟩ : Addr), u.op), (⟨b, o + 1, none⟩, u.a), (⟨b, o + 2, none⟩, u.b), (⟨b, o + 3, none⟩, u.c), (⟨b, o + 4, none⟩, u.d)], Sc w B t q.1 (.int .i64 q.2)) := hs
  clear h h0 h1 h2 h3 h4 hs
  go_enter Tryz.func117, Tryz.ntmps117
  go_wp2_with fail
  go_region_with (go_at_call 110; refine (wholes_drew B t gp gm l _ 5 rfl w HT.out (by simp) HS.out).mono ?_; rintro e w3 ⟨hK3, ⟨rfl, hT3⟩ | ⟨rfl, hx⟩⟩; rotate_left; exact ⟨rfl, hK3, .inr ⟨rfl, by simpa [stepL] using hx⟩⟩)
  go_wp2_with fail
  go_end0
  exact ⟨hK3, .inl ⟨rfl, by simpa [stepL] using hT3⟩⟩

set_option maxRecDepth 20000 in
set_option maxHeartbeats 4000000 in
theorem named_any' (B t gp gm : Nat) (l : List UInt8) (u : ND) (b o : Nat) (w : World) (h : Tape w B t gp gm l) (hz : u.s.size ≤ 1000000000) (h0 : Sc w B t ⟨b, o, none⟩ (.string u.s)) (h1 : Sc w B t ⟨b, o + 1, none⟩ (.int .i64 u.reg)) (h2 : Sc w B t ⟨b, o + 2, none⟩ (.int .i64 u.fr)) (h3 : Sc w B t ⟨b, o + 3, none⟩ (.int .i64 u.to)) :
    Calls Tryz.prog 119 #[.pointer (some ⟨t, 0, none⟩), .pointer (some ⟨b, o, none⟩)] w (Wrote B t gp gm w (l ++ namedL u) (.tuple #[])) := by
  have HT : Hid (Tape w B t gp gm l) := h
  have H0 : Hid (Sc w B t ⟨b, o, none⟩ (.string u.s)) := h0
  have hs : ∀ q ∈ [((⟨b, o + 1, none⟩ : Addr), u.reg), (⟨b, o + 2, none⟩, u.fr), (⟨b, o + 3, none⟩, u.to)], Sc w B t q.1 (.int .i64 q.2) := by simp [h1, h2, h3]
  have HS : Hid (∀ q ∈ [((⟨b, o + 1, none⟩ : Addr), u.reg), (⟨b, o + 2, none⟩, u.fr), (⟨b, o + 3, none⟩, u.to)], Sc w B t q.1 (.int .i64 q.2)) := hs
  clear h h0 h1 h2 h3 hs
  go_enter Tryz.func119, Tryz.ntmps119
  go_wp2_with fail
  refine (text_any B t gp gm l u.s ⟨b, o, none⟩ _ HT.out H0.out hz).mono ?_
  rintro e w2 ⟨hK, ⟨rfl, hT⟩ | ⟨rfl, hx⟩⟩
  · have HT2 : Hid (Tape w2 B t gp gm _) := hT
    clear hT
    go_wp2_with fail
    go_region_with (go_at_call 110; refine (wholes_drew B t gp gm _ _ 3 rfl w2 HT2.out (by simp) (fun q hq => (HS.out q hq).keep hK)).mono ?_; rintro e w3 ⟨hK3, ⟨rfl, hT3⟩ | ⟨rfl, hx⟩⟩; rotate_left; exact ⟨rfl, hK.trans hK3, .inr ⟨rfl, by simpa [namedL] using hx⟩⟩)
    go_wp2_with fail
    go_end0
    exact ⟨hK.trans hK3, .inl ⟨rfl, by simpa [namedL] using hT3⟩⟩
  · exact ⟨rfl, hK, .inr ⟨rfl, wrote_len hx (b := numL u.reg ++ (numL u.fr ++ numL u.to)) (by unfold namedL; rw [List.append_assoc])⟩⟩

set_option maxRecDepth 20000 in
set_option maxHeartbeats 4000000 in
theorem num_part (B t gp gm : Nat) (l : List UInt8) (n : Int) (b o : Nat) (w : World) (h : Tape w B t gp gm l) (h1 : w.cell? ⟨b, o + 1, none⟩ = some (.int .i64 n)) :
    Calls Tryz.prog 64 #[.pointer (some ⟨t, 0, none⟩), .pointer (some ⟨b, o, none⟩)] w (Wrote B t gp gm w (l ++ numL n) (.tuple #[])) := by
  have HT : Hid (Tape w B t gp gm l) := h
  clear h
  go_enter Tryz.func64, Tryz.ntmps64
  go_wp2_with fail
  refine (number_any B t gp gm l n ⟨b, o + 1, none⟩ _ HT.out h1).mono ?_
  rintro e w2 ⟨hK, ⟨rfl, hT⟩ | ⟨rfl, hx⟩⟩
  · go_wp2_with fail
    go_end0
    exact ⟨hK, .inl ⟨rfl, hT⟩⟩
  · exact ⟨rfl, hK, .inr ⟨rfl, hx⟩⟩

set_option maxRecDepth 20000 in
set_option maxHeartbeats 4000000 in
theorem str_part (B t gp gm : Nat) (l : List UInt8) (s : ByteArray) (b o : Nat) (w : World) (h : Tape w B t gp gm l) (hz : s.size ≤ 1000000000) (h1 : Sc w B t ⟨b, o + 3, none⟩ (.string s)) :
    Calls Tryz.prog 66 #[.pointer (some ⟨t, 0, none⟩), .pointer (some ⟨b, o, none⟩)] w (Wrote B t gp gm w (l ++ textL s) (.tuple #[])) := by
  have HT : Hid (Tape w B t gp gm l) := h
  have H1 : Hid (Sc w B t ⟨b, o + 3, none⟩ (.string s)) := h1
  clear h h1
  go_enter Tryz.func66, Tryz.ntmps66
  go_wp2_with fail
  refine (text_any B t gp gm l s ⟨b, o + 3, none⟩ _ HT.out H1.out hz).mono ?_
  rintro e w2 ⟨hK, ⟨rfl, hT⟩ | ⟨rfl, hx⟩⟩
  · go_wp2_with fail
    go_end0
    exact ⟨hK, .inl ⟨rfl, hT⟩⟩
  · exact ⟨rfl, hK, .inr ⟨rfl, hx⟩⟩

theorem top_pow (f m : Nat) (hm : m < 8) : f * 2 ^ (8 * m) % 2 ^ 64 / 2 ^ 56 = f / 2 ^ (56 - 8 * m) % 256 := by
  have e1 : (2 : Nat) ^ 64 = 2 ^ (8 * m) * (2 ^ (56 - 8 * m) * 256) := by
    rw [show (256 : Nat) = 2 ^ 8 from rfl, ← Nat.pow_add, ← Nat.pow_add]
    congr 1
    omega
  have e2 : (2 : Nat) ^ 56 = 2 ^ (8 * m) * 2 ^ (56 - 8 * m) := by
    rw [← Nat.pow_add]
    congr 1
    omega
  rw [e1, e2, Nat.mul_comm f, Nat.mul_mod_mul_left, Nat.mul_div_mul_left _ _ (Nat.two_pow_pos _), Nat.mod_mul_right_div_self]
def U64 : Nat := 2 ^ 64
theorem U64_eq : U64 = 18446744073709551616 := rfl
theorem byte_top (f v m : Nat) (hm : m < 8) (hv : v = f * 2 ^ (8 * m) % U64) : (v : Int) / 72057594037927936 = ((byteI f m).toNat : Int) := by
  have h := top_pow f m hm
  have h2 : v / 72057594037927936 = f / 2 ^ (56 - 8 * m) % 256 := by rw [hv]; exact h
  unfold byteI
  rw [UInt8.toNat_ofNat']
  have e : ((f / 2 ^ (56 - 8 * m) % 2 ^ 8 : Nat) : Int) = ((v / 72057594037927936 : Nat) : Int) := by rw [h2]
  rw [e]
  rfl
theorem byte_next (f v m : Nat) (hv : v = f * 2 ^ (8 * m) % U64) : v * 256 % U64 = f * 2 ^ (8 * (m + 1)) % U64 := by
  rw [hv, Nat.mod_mul_mod, show 8 * (m + 1) = 8 * m + 8 by omega, Nat.pow_add, show (2 : Nat) ^ 8 = 256 from rfl, Nat.mul_assoc]
theorem wrap_256 (v : Nat) : IntKind.u64.wrap ((v : Int) * 256) = ((v * 256 % U64 : Nat) : Int) := by
  rw [IntKind.wrap_u64, U64_eq]
  omega

set_option maxRecDepth 20000 in
set_option maxHeartbeats 4000000 in
theorem flt_part (B t gp gm : Nat) (l : List UInt8) (f : Nat) (b o : Nat) (w : World) (h : Tape w B t gp gm l) (hf : f < 18446744073709551616) (h1 : w.cell? ⟨b, o + 2, none⟩ = some (.float .f64 f)) :
    Calls Tryz.prog 65 #[.pointer (some ⟨t, 0, none⟩), .pointer (some ⟨b, o, none⟩)] w (Wrote B t gp gm w (l ++ bitsL f) (.tuple #[])) := by
  have HT : Hid (Tape w B t gp gm l) := h
  have hb := run_bits f
  clear h
  go_enter Tryz.func65, Tryz.ntmps65
  go_wp2_with fail
  go_loopw [4, 5, 11] (fun gv fo i wr => ∃ (m v : Nat) (x : Int) (l1 : List UInt8), m ≤ 8 ∧ i = .int .i64 m ∧ gv = .int .u64 (v : Int) ∧ fo = .int .u64 x ∧ v < 18446744073709551616 ∧ Hid (v = f * 2 ^ (8 * m) % U64) ∧ Hid (l1 = l ++ (bitsL f).take m) ∧ Hid (Tape wr B t gp gm l1) ∧ Hid (Kp B (some t) w wr)) (fun _ _ i _ => 8 - (intOf i).toNat)
  case atStart => exact ⟨0, f, 0, l, by omega, rfl, rfl, rfl, hf, by show _ = _; rw [Nat.mul_zero, Nat.pow_zero, Nat.mul_one, Nat.mod_eq_of_lt (by rw [U64_eq]; exact hf)], by show _ = _; simp, HT, Kp.refl _ _ _⟩
  case round =>
    clear HT h1 hb
    obtain ⟨m, v, x, l1, hm, rfl, rfl, rfl, hv, HV, HL, HT, HK⟩ := hrel
    by_cases k1 : m < 8
    · have HB : Hid (l1 ++ [byteI f m] = l ++ (bitsL f).take (m + 1)) := by
        show _ = _
        rw [HL.out, List.take_add_one, show (bitsL f)[m]? = some (byteI f m) by simp [bitsL, k1], List.append_assoc]
        rfl
      go_wp2_with fail
      refine (octet_any B t gp gm l1 (byteI f m) _ wr HT.out (byte_top f v m k1 HV.out)).mono ?_
      rintro e w2 ⟨hK, ⟨rfl, hT⟩ | ⟨rfl, hx⟩⟩
      · have HT2 : Hid (Tape w2 B t gp gm _) := hT
        have HK2 : Hid (Kp B (some t) w w2) := HK.out.trans hK
        clear hT hK HT HK
        go_wp2_with fail
        go_roundw
        case rel => exact ⟨m + 1, v * 256 % U64, _, _, by omega, by go_num, by rw [wrap_256], rfl, by have := Nat.mod_lt (v * 256) (show 0 < U64 by decide); rw [U64_eq] at this ⊢; exact this, byte_next f v m HV.out, HB, HT2, HK2⟩
        case measure => simp [intOf]; omega
      · exact ⟨rfl, HK.out.trans hK, .inr ⟨rfl, wrote_len hx (b := (bitsL f).drop (m + 1)) (by rw [HB.out, List.append_assoc, List.take_append_drop])⟩⟩
    · obtain rfl : m = 8 := by omega
      have t1 := HT.out.reads
      have HL2 : Hid (l1 = l ++ bitsL f) := by show _ = _; rw [HL.out, List.take_of_length_le (by simp [bitsL])]
      go_wp2_with fail
      go_end0
      exact ⟨HK.out, .inl ⟨rfl, by rw [← HL2.out]; exact HT.out⟩⟩
end Go.Proofs.YtfkeklndcjkgcaaGreatDoor

/-
  OWN WORK. The program's tape that is written: consts, the head, lists.
-/
namespace Go.Proofs.YtfkeklndcjkgcaaGreatDoor
open Go.RowKit
attribute [local go_sem] run_store_float
set_option linter.unusedVariables false
set_option linter.unusedSimpArgs false

/-- The parts of a tape that are never written. -/
structure Parts (w : World) (t gp gm : Nat) : Prop where
  p : w.heap[gp]? = some (GPO t)
  m : w.heap[gm]? = some (.map (KES t) 5)
  np : gp ≠ t
  nm : gm ≠ t
theorem Kp.obj {B : Nat} {tb : Option Nat} {w w' : World} (h : Kp B tb w w') {g : Nat} {o : Obj} (hg : w.heap[g]? = some o) (ho : ∀ arr fz, o ≠ .cells arr 5 fz) (hn : some g ≠ tb) : w'.heap[g]? = some o := by
  rw [h.block g (blk_lt hg) hn (.inr fun a f => by rw [hg]; intro e; exact ho a f (Option.some.inj e))]
  exact hg
theorem Parts.keep {w w' : World} {B t gp gm : Nat} (h : Parts w t gp gm) (hK : Kp B (some t) w w') : Parts w' t gp gm :=
  ⟨hK.obj h.p (fun _ _ e => by cases e) (by simpa using h.np), hK.obj h.m (fun _ _ e => by cases e) (by simpa using h.nm), h.np, h.nm⟩
theorem Parts.later {w w' : World} {t gp gm : Nat} (h : Parts w t gp gm) (hb : Below w.heap.size w w') : Parts w' t gp gm := ⟨blk_later hb h.p, blk_later hb h.m, h.np, h.nm⟩
theorem Tape.kinds {w : World} {B t gp gm : Nat} {l : List UInt8} (h : Tape w B t gp gm l) : w.cell? ⟨t, 4, none⟩ = some (.map (some gm)) := by
  obtain ⟨⟨sv, hT, _⟩, _⟩ := h
  exact (blk_cell hT 4).trans rfl
theorem Tape.parts {w : World} {B t gp gm : Nat} {l : List UInt8} (h : Tape w B t gp gm l) : w.cell? ⟨t, 3, none⟩ = some (.slice (some ⟨gp, 0, none⟩) 5 5) := by
  obtain ⟨⟨sv, hT, _⟩, _⟩ := h
  exact (blk_cell hT 3).trans rfl
theorem kp_drew {B t : Nat} {w w' : World} (h : Kp B (some t) w w') : Kp B (some t) w w'.drew := h.trans (Kp.of_below (Below.refl _ _).drew)

set_option maxRecDepth 20000 in
set_option maxHeartbeats 4000000 in
theorem value_num1 (B t gp gm : Nat) (l : List UInt8) (n : Int) (b o : Nat) (w : World) (h : Tape w B t gp gm l) (hp : Parts w t gp gm) (h0 : Sc w B t ⟨b, o, none⟩ (.int .i64 1)) (h1 : Sc w B t ⟨b, o + 1, none⟩ (.int .i64 n)) :
    Calls Tryz.prog 115 #[.pointer (some ⟨t, 0, none⟩), .pointer (some ⟨b, o, none⟩)] w (Wrote B t gp gm w (l ++ ([1] ++ numL n)) (.tuple #[])) := by
  have HT : Hid (Tape w B t gp gm l) := h
  have HP : Hid (Parts w t gp gm) := hp
  have H1 : Hid _ := h1
  have e0 := h0.1
  clear h hp h0 h1
  go_enter Tryz.func115, Tryz.ntmps115
  go_wp2_with fail
  refine (octet_any B t gp gm l 1 _ w HT.out rfl).mono ?_
  rintro e w2 ⟨hK, ⟨rfl, hT⟩ | ⟨rfl, hx⟩⟩
  · have t1 := hT.reads
    have t4 := hT.kinds
    have hlk := lookup_kind t gm 1 (MV 64 t) 0 5 w2 (HP.out.keep hK).m rfl
    have HT2 : Hid (Tape w2 B t gp gm (l ++ [1])) := hT
    clear hT
    go_wp2_with fail
    refine (num_part B t gp gm _ n b o w2 HT2.out (Sc.keep (show Sc w B t ⟨b, o + 1, none⟩ (.int .i64 n) from H1.out) hK).1).mono ?_
    rintro e w3 ⟨hK3, ⟨rfl, hT3⟩ | ⟨rfl, hx⟩⟩
    · go_wp2_with fail
      go_end0
      exact ⟨hK.trans hK3, .inl ⟨rfl, by have h4 := hT3; rw [List.append_assoc] at h4; exact h4⟩⟩
    · exact ⟨rfl, hK.trans hK3, .inr ⟨rfl, by have h4 := hx; rw [List.append_assoc] at h4; exact h4⟩⟩
  · exact ⟨rfl, hK, .inr ⟨rfl, wrote_len hx (b := numL n) (by rw [List.append_assoc]; rfl)⟩⟩

set_option maxRecDepth 20000 in
set_option maxHeartbeats 4000000 in
theorem value_num2 (B t gp gm : Nat) (l : List UInt8) (n : Int) (b o : Nat) (w : World) (h : Tape w B t gp gm l) (hp : Parts w t gp gm) (h0 : Sc w B t ⟨b, o, none⟩ (.int .i64 2)) (h1 : Sc w B t ⟨b, o + 1, none⟩ (.int .i64 n)) :
    Calls Tryz.prog 115 #[.pointer (some ⟨t, 0, none⟩), .pointer (some ⟨b, o, none⟩)] w (Wrote B t gp gm w (l ++ ([2] ++ numL n)) (.tuple #[])) := by
  have HT : Hid (Tape w B t gp gm l) := h
  have HP : Hid (Parts w t gp gm) := hp
  have H1 : Hid _ := h1
  have e0 := h0.1
  clear h hp h0 h1
  go_enter Tryz.func115, Tryz.ntmps115
  go_wp2_with fail
  refine (octet_any B t gp gm l 2 _ w HT.out rfl).mono ?_
  rintro e w2 ⟨hK, ⟨rfl, hT⟩ | ⟨rfl, hx⟩⟩
  · have t1 := hT.reads
    have t4 := hT.kinds
    have hlk := lookup_kind t gm 2 (MV 64 t) 1 5 w2 (HP.out.keep hK).m rfl
    have HT2 : Hid (Tape w2 B t gp gm (l ++ [2])) := hT
    clear hT
    go_wp2_with fail
    refine (num_part B t gp gm _ n b o w2 HT2.out (Sc.keep (show Sc w B t ⟨b, o + 1, none⟩ (.int .i64 n) from H1.out) hK).1).mono ?_
    rintro e w3 ⟨hK3, ⟨rfl, hT3⟩ | ⟨rfl, hx⟩⟩
    · go_wp2_with fail
      go_end0
      exact ⟨hK.trans hK3, .inl ⟨rfl, by have h4 := hT3; rw [List.append_assoc] at h4; exact h4⟩⟩
    · exact ⟨rfl, hK.trans hK3, .inr ⟨rfl, by have h4 := hx; rw [List.append_assoc] at h4; exact h4⟩⟩
  · exact ⟨rfl, hK, .inr ⟨rfl, wrote_len hx (b := numL n) (by rw [List.append_assoc]; rfl)⟩⟩

set_option maxRecDepth 20000 in
set_option maxHeartbeats 4000000 in
theorem value_num8 (B t gp gm : Nat) (l : List UInt8) (n : Int) (b o : Nat) (w : World) (h : Tape w B t gp gm l) (hp : Parts w t gp gm) (h0 : Sc w B t ⟨b, o, none⟩ (.int .i64 8)) (h1 : Sc w B t ⟨b, o + 1, none⟩ (.int .i64 n)) :
    Calls Tryz.prog 115 #[.pointer (some ⟨t, 0, none⟩), .pointer (some ⟨b, o, none⟩)] w (Wrote B t gp gm w (l ++ ([8] ++ numL n)) (.tuple #[])) := by
  have HT : Hid (Tape w B t gp gm l) := h
  have HP : Hid (Parts w t gp gm) := hp
  have H1 : Hid _ := h1
  have e0 := h0.1
  clear h hp h0 h1
  go_enter Tryz.func115, Tryz.ntmps115
  go_wp2_with fail
  refine (octet_any B t gp gm l 8 _ w HT.out rfl).mono ?_
  rintro e w2 ⟨hK, ⟨rfl, hT⟩ | ⟨rfl, hx⟩⟩
  · have t1 := hT.reads
    have t4 := hT.kinds
    have hlk := lookup_kind t gm 8 (MV 64 t) 4 5 w2 (HP.out.keep hK).m rfl
    have HT2 : Hid (Tape w2 B t gp gm (l ++ [8])) := hT
    clear hT
    go_wp2_with fail
    refine (num_part B t gp gm _ n b o w2 HT2.out (Sc.keep (show Sc w B t ⟨b, o + 1, none⟩ (.int .i64 n) from H1.out) hK).1).mono ?_
    rintro e w3 ⟨hK3, ⟨rfl, hT3⟩ | ⟨rfl, hx⟩⟩
    · go_wp2_with fail
      go_end0
      exact ⟨hK.trans hK3, .inl ⟨rfl, by have h4 := hT3; rw [List.append_assoc] at h4; exact h4⟩⟩
    · exact ⟨rfl, hK.trans hK3, .inr ⟨rfl, by have h4 := hx; rw [List.append_assoc] at h4; exact h4⟩⟩
  · exact ⟨rfl, hK, .inr ⟨rfl, wrote_len hx (b := numL n) (by rw [List.append_assoc]; rfl)⟩⟩

set_option maxRecDepth 20000 in
set_option maxHeartbeats 4000000 in
theorem value_str (B t gp gm : Nat) (l : List UInt8) (s : ByteArray) (b o : Nat) (w : World) (h : Tape w B t gp gm l) (hp : Parts w t gp gm) (h0 : Sc w B t ⟨b, o, none⟩ (.int .i64 4)) (h1 : Sc w B t ⟨b, o + 3, none⟩ (.string s)) (hz : s.size ≤ 1000000000) :
    Calls Tryz.prog 115 #[.pointer (some ⟨t, 0, none⟩), .pointer (some ⟨b, o, none⟩)] w (Wrote B t gp gm w (l ++ ([4] ++ textL s)) (.tuple #[])) := by
  have HT : Hid (Tape w B t gp gm l) := h
  have HP : Hid (Parts w t gp gm) := hp
  have H1 : Hid _ := h1
  have e0 := h0.1
  clear h hp h0 h1
  go_enter Tryz.func115, Tryz.ntmps115
  go_wp2_with fail
  refine (octet_any B t gp gm l 4 _ w HT.out rfl).mono ?_
  rintro e w2 ⟨hK, ⟨rfl, hT⟩ | ⟨rfl, hx⟩⟩
  · have t1 := hT.reads
    have t4 := hT.kinds
    have hlk := lookup_kind t gm 4 (MV 66 t) 3 5 w2 (HP.out.keep hK).m rfl
    have HT2 : Hid (Tape w2 B t gp gm (l ++ [4])) := hT
    clear hT
    go_wp2_with fail
    refine (str_part B t gp gm _ s b o w2 HT2.out hz (Sc.keep (show Sc w B t ⟨b, o + 3, none⟩ (.string s) from H1.out) hK)).mono ?_
    rintro e w3 ⟨hK3, ⟨rfl, hT3⟩ | ⟨rfl, hx⟩⟩
    · go_wp2_with fail
      go_end0
      exact ⟨hK.trans hK3, .inl ⟨rfl, by have h4 := hT3; rw [List.append_assoc] at h4; exact h4⟩⟩
    · exact ⟨rfl, hK.trans hK3, .inr ⟨rfl, by have h4 := hx; rw [List.append_assoc] at h4; exact h4⟩⟩
  · exact ⟨rfl, hK, .inr ⟨rfl, wrote_len hx (b := textL s) (by rw [List.append_assoc]; rfl)⟩⟩

set_option maxRecDepth 20000 in
set_option maxHeartbeats 4000000 in
theorem value_flt (B t gp gm : Nat) (l : List UInt8) (f : Nat) (b o : Nat) (w : World) (h : Tape w B t gp gm l) (hp : Parts w t gp gm) (h0 : Sc w B t ⟨b, o, none⟩ (.int .i64 3)) (h1 : Sc w B t ⟨b, o + 2, none⟩ (.float .f64 f)) (hf : f < 18446744073709551616) :
    Calls Tryz.prog 115 #[.pointer (some ⟨t, 0, none⟩), .pointer (some ⟨b, o, none⟩)] w (Wrote B t gp gm w (l ++ ([3] ++ bitsL f)) (.tuple #[])) := by
  have HT : Hid (Tape w B t gp gm l) := h
  have HP : Hid (Parts w t gp gm) := hp
  have H1 : Hid _ := h1
  have e0 := h0.1
  clear h hp h0 h1
  go_enter Tryz.func115, Tryz.ntmps115
  go_wp2_with fail
  refine (octet_any B t gp gm l 3 _ w HT.out rfl).mono ?_
  rintro e w2 ⟨hK, ⟨rfl, hT⟩ | ⟨rfl, hx⟩⟩
  · have t1 := hT.reads
    have t4 := hT.kinds
    have hlk := lookup_kind t gm 3 (MV 65 t) 2 5 w2 (HP.out.keep hK).m rfl
    have HT2 : Hid (Tape w2 B t gp gm (l ++ [3])) := hT
    clear hT
    go_wp2_with fail
    refine (flt_part B t gp gm _ f b o w2 HT2.out hf (Sc.keep (show Sc w B t ⟨b, o + 2, none⟩ (.float .f64 f) from H1.out) hK).1).mono ?_
    rintro e w3 ⟨hK3, ⟨rfl, hT3⟩ | ⟨rfl, hx⟩⟩
    · go_wp2_with fail
      go_end0
      exact ⟨hK.trans hK3, .inl ⟨rfl, by have h4 := hT3; rw [List.append_assoc] at h4; exact h4⟩⟩
    · exact ⟨rfl, hK.trans hK3, .inr ⟨rfl, by have h4 := hx; rw [List.append_assoc] at h4; exact h4⟩⟩
  · exact ⟨rfl, hK, .inr ⟨rfl, wrote_len hx (b := bitsL f) (by rw [List.append_assoc]; rfl)⟩⟩

set_option maxRecDepth 20000 in
set_option maxHeartbeats 4000000 in
theorem value_nil (B t gp gm : Nat) (l : List UInt8) (b o : Nat) (w : World) (h : Tape w B t gp gm l) (hp : Parts w t gp gm) (h0 : Sc w B t ⟨b, o, none⟩ (.int .i64 0)) :
    Calls Tryz.prog 115 #[.pointer (some ⟨t, 0, none⟩), .pointer (some ⟨b, o, none⟩)] w (Wrote B t gp gm w (l ++ [0]) (.tuple #[])) := by
  have HT : Hid (Tape w B t gp gm l) := h
  have HP : Hid (Parts w t gp gm) := hp
  have e0 := h0.1
  clear h hp h0
  go_enter Tryz.func115, Tryz.ntmps115
  go_wp2_with fail
  refine (octet_any B t gp gm l 0 _ w HT.out rfl).mono ?_
  rintro e w2 ⟨hK, ⟨rfl, hT⟩ | ⟨rfl, hx⟩⟩
  · have t1 := hT.reads
    have t4 := hT.kinds
    obtain ⟨v, hlk⟩ := lookup_none t gm 0 5 w2 (HP.out.keep hK).m rfl
    have HT2 : Hid (Tape w2 B t gp gm (l ++ [0])) := hT
    clear hT
    go_wp2_with fail
    go_end0
    exact ⟨hK, .inl ⟨rfl, HT2.out⟩⟩
  · exact ⟨rfl, hK, .inr ⟨rfl, hx⟩⟩

/-- A const. -/
theorem value_any (B t gp gm : Nat) (l : List UInt8) (v : VD) (b o : Nat) (w : World) (hv : CSm v) (h : Tape w B t gp gm l) (hp : Parts w t gp gm) (hc : ∀ j x, v.cells[j]? = some x → Sc w B t ⟨b, o + j, none⟩ x) :
    Calls Tryz.prog 115 #[.pointer (some ⟨t, 0, none⟩), .pointer (some ⟨b, o, none⟩)] w (Wrote B t gp gm w (l ++ constL v) (.tuple #[])) := by
  obtain ⟨hk, hs, hf, hn⟩ := hv
  obtain ⟨k, n, f, s, r⟩ := v
  have c0 : Sc w B t ⟨b, o, none⟩ (.int .i64 k) := hc 0 _ rfl
  have c1 : Sc w B t ⟨b, o + 1, none⟩ (.int .i64 n) := hc 1 _ rfl
  have c2 : Sc w B t ⟨b, o + 2, none⟩ (.float .f64 f) := hc 2 _ rfl
  have c3 : Sc w B t ⟨b, o + 3, none⟩ (.string s) := hc 3 _ rfl
  dsimp only at hk hs hf hn
  rcases hk with rfl | rfl | rfl | rfl | rfl | rfl
  · exact value_nil B t gp gm l b o w h hp c0
  · exact value_num1 B t gp gm l n b o w h hp c0 c1
  · exact value_num2 B t gp gm l n b o w h hp c0 c1
  · exact value_flt B t gp gm l f b o w h hp c0 c2 hf
  · exact value_str B t gp gm l s b o w h hp c0 c3 (by have := hs rfl; omega)
  · exact value_num8 B t gp gm l n b o w h hp c0 c1

set_option maxRecDepth 20000 in
set_option maxHeartbeats 4000000 in
theorem thead_any (B t gp gm : Nat) (l : List UInt8) (d : FD) (b o : Nat) (w : World) (h : Tape w B t gp gm l) (hz : d.name.size ≤ 1000000000) (h0 : Sc w B t ⟨b, o, none⟩ (.string d.name)) (h1 : Sc w B t ⟨b, o + 1, none⟩ (.int .i64 d.line)) (h2 : Sc w B t ⟨b, o + 2, none⟩ (.int .i64 d.params)) (h3 : Sc w B t ⟨b, o + 3, none⟩ (.bool d.rest)) (h4 : Sc w B t ⟨b, o + 4, none⟩ (.int .i64 d.regs)) :
    Calls Tryz.prog 59 #[.pointer (some ⟨t, 0, none⟩), .pointer (some ⟨b, o, none⟩)] w (Wrote B t gp gm w (l ++ headE d) (.tuple #[])) := by
  have HT : Hid (Tape w B t gp gm l) := h
  have H0 : Hid (Sc w B t ⟨b, o, none⟩ (.string d.name)) := h0
  have hs : ∀ q ∈ [((⟨b, o + 1, none⟩ : Addr), d.line), (⟨b, o + 2, none⟩, d.params)], Sc w B t q.1 (.int .i64 q.2) := by simp [h1, h2]
  have HS : Hid (∀ q ∈ [((⟨b, o + 1, none⟩ : Addr), d.line), (⟨b, o + 2, none⟩, d.params)], Sc w B t q.1 (.int .i64 q.2)) := hs
  have H3 : Hid (Sc w B t ⟨b, o + 3, none⟩ (.bool d.rest)) := h3
  have H4 : Hid (Sc w B t ⟨b, o + 4, none⟩ (.int .i64 d.regs)) := h4
  clear h h0 h1 h2 h3 h4 hs
  go_enter Tryz.func59, Tryz.ntmps59
  go_wp2_with fail
  refine (text_any B t gp gm l d.name ⟨b, o, none⟩ _ HT.out H0.out hz).mono ?_
  rintro e w2 ⟨hK, ⟨rfl, hT⟩ | ⟨rfl, hx⟩⟩
  · have HT2 : Hid (Tape w2 B t gp gm _) := hT
    have HK2 : Hid (Kp B (some t) w w2) := hK
    clear hT hK
    go_wp2_with fail
    go_region_with (go_at_call 110; refine (wholes_drew B t gp gm _ _ 2 rfl w2 HT2.out (by simp) (fun q hq => (HS.out q hq).keep HK2.out)).mono ?_; rintro e w3 ⟨hK3, ⟨rfl, hT3⟩ | ⟨rfl, hx⟩⟩; rotate_left; exact ⟨rfl, HK2.out.trans hK3, .inr ⟨rfl, wrote_len hx (b := flagL d.rest ++ numL d.regs) (by simp [headE])⟩⟩)
    have HT3 : Hid (Tape w3 B t gp gm _) := hT3
    have HK3 : Hid (Kp B (some t) w w3) := HK2.out.trans hK3
    clear hT3 hK3 HT2 HK2
    go_wp2_with fail
    refine (flag_any B t gp gm _ d.rest ⟨b, o + 3, none⟩ _ HT3.out (H3.out.keep HK3.out).1).mono ?_
    rintro e w4 ⟨hK, ⟨rfl, hT⟩ | ⟨rfl, hx⟩⟩
    · have HT4 : Hid (Tape w4 B t gp gm _) := hT
      have HK4 : Hid (Kp B (some t) w w4) := HK3.out.trans hK
      clear hT hK HT3 HK3
      go_wp2_with fail
      refine (wholes_new B t gp gm _ [(⟨b, o + 4, none⟩, d.regs)] 1 rfl w4 HT4.out (by simp) (by simpa using H4.out.keep HK4.out)).mono ?_
      rintro e w5 ⟨hK, ⟨rfl, hT⟩ | ⟨rfl, hx⟩⟩
      · go_wp2_with fail
        go_end0
        exact ⟨HK4.out.trans hK, .inl ⟨rfl, by simpa [headE] using hT⟩⟩
      · exact ⟨rfl, HK4.out.trans hK, .inr ⟨rfl, by simpa [headE] using hx⟩⟩
    · exact ⟨rfl, HK3.out.trans hK, .inr ⟨rfl, wrote_len hx (b := numL d.regs) (by simp [headE])⟩⟩
  · exact ⟨rfl, hK, .inr ⟨rfl, wrote_len hx (b := numL d.line ++ (numL d.params ++ (flagL d.rest ++ numL d.regs))) (by unfold headE; rw [List.append_assoc])⟩⟩
end Go.Proofs.YtfkeklndcjkgcaaGreatDoor
