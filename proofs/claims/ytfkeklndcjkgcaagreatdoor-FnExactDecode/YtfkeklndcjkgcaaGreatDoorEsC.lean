import Derived.Test.YtfkeklndcjkgcaaGreatDoorEDat
import Derived.Test.YtfkeklndcjkgcaaGreatDoorLApp
import Derived.Laws.BitsAllLaws
import Derived.Laws.Bits64
import Derived.Test.YtfkeklndcjkgcaaGreatDoorBase
import Derived.Test.YtfkeklndcjkgcaaGreatDoorFlX
/-
  OWN WORK. The specification's numbers, flags and texts of an image.
-/
namespace Go.Proofs.YtfkeklndcjkgcaaGreatDoor
open Go.RowKit
set_option linter.unusedVariables false
set_option linter.unusedSimpArgs false

/-- All is as it was but one block and the rows of bytes from a place on. -/
structure Kp (B : Nat) (tb : Option Nat) (w w' : World) : Prop where
  os : w'.os = w.os
  tape : w'.tape = w.tape
  output : w'.output = w.output
  size : w.heap.size ≤ w'.heap.size
  block : ∀ j, j < w.heap.size → some j ≠ tb → (j < B ∨ ∀ arr fz, w.heap[j]? ≠ some (.cells arr 5 fz)) → w'.heap[j]? = w.heap[j]?
theorem Kp.refl (B : Nat) (tb : Option Nat) (w : World) : Kp B tb w w := ⟨rfl, rfl, rfl, Nat.le_refl _, fun _ _ _ _ => rfl⟩
theorem Kp.trans {B : Nat} {tb : Option Nat} {w w1 w2 : World} (h : Kp B tb w w1) (h' : Kp B tb w1 w2) : Kp B tb w w2 :=
  ⟨h'.os.trans h.os, h'.tape.trans h.tape, h'.output.trans h.output, Nat.le_trans h.size h'.size, fun j hj hn hk => by
    have e := h.block j hj hn hk
    rw [← e]
    refine h'.block j (Nat.lt_of_lt_of_le hj h.size) hn ?_
    rcases hk with hk | hk
    · exact .inl hk
    · exact .inr fun arr fz => by rw [e]; exact hk arr fz⟩
theorem Kp.of_below {B : Nat} {tb : Option Nat} {w w' : World} (h : Below w.heap.size w w') : Kp B tb w w' := ⟨h.os, h.tape, h.output, h.size, fun j hj _ _ => h.block j hj⟩
theorem Kp.of_grown {B : Nat} {tb : Option Nat} {w w' : World} {sv : Value} {l : List UInt8} (ho : BRow w B sv l) (hg : w.grownBy w' sv.ownBlock) : Kp B tb w w' :=
  ⟨hg.os, hg.tape, hg.output, hg.size, fun j hj _ hk => hg.block j hj (fun he => by
    rcases ho.2 with ⟨rfl, _⟩ | ⟨g, cap, cur, rfl, e2, e3, _⟩
    · cases he
    · have : j = g := by simpa [Value.ownBlock] using he
      subst this
      rcases hk with hk | hk
      · omega
      · exact hk _ _ e3)⟩
theorem Kp.below {B : Nat} {w w' : World} (h : Kp B none w w') {C : Nat} (hC : C ≤ B) (hs : C ≤ w.heap.size) : Below C w w' := ⟨h.os, h.tape, h.output, h.size, fun j hj => h.block j (by omega) (by simp) (.inl (by omega))⟩
theorem Kp.blk {B : Nat} {tb : Option Nat} {w w' : World} (h : Kp B tb w w') {g : Nat} {arr : Array Value} {t : TypeId} (hg : w.heap[g]? = some (.cells arr t)) (ht : t ≠ 5) (hn : some g ≠ tb) : w'.heap[g]? = some (.cells arr t) := by
  rw [h.block g (blk_lt hg) hn (.inr fun a f => by rw [hg]; intro e; cases e; exact ht rfl)]
  exact hg
theorem Kp.less {B : Nat} {w w' : World} (h : Kp B none w w') (tb : Option Nat) : Kp B tb w w' := ⟨h.os, h.tape, h.output, h.size, fun j hj _ hk => h.block j hj (by simp) hk⟩

/-- One byte more, and all else as it was. -/
theorem one_more (B : Nat) (w : World) (sv : Value) (l : List UInt8) (c : UInt8) (z : Int) (hz : z = (c.toNat : Int)) (ho : BRow w B sv l) (hlen : l.length ≤ 900000000000) (hb : B ≤ w.heap.size) :
    ∃ sv' w', Hid ((Builtin.append_ #[33, 33] 33 #[sv, .slice (some ⟨w.heap.size, 0, none⟩) 1 1]).run Tryz.prog (w.alloc (.cells #[.int .u8 z] 5)) = .ok sv' w') ∧ Hid (BRow w' B sv' (l ++ [c])) ∧ Kp B none w w' := by
  obtain ⟨sv', w', h1, h2, h3⟩ := app_byte B w sv l c z hz 33 ho hlen hb
  have hy := bw1 w (.cells #[.int .u8 z] 5)
  exact ⟨sv', w', h1, h2, (Kp.of_below hy).trans (Kp.of_grown (ho.later hy) h3)⟩

/-! ### Bits of numbers -/
theorem xor_all (u : Nat) (h : u < 18446744073709551616) : 18446744073709551615 ^^^ u = 18446744073709551615 - u := by
  have h1 : (BitVec.allOnes 64 ^^^ BitVec.ofNat 64 u).toNat = (BitVec.allOnes 64).toNat ^^^ (BitVec.ofNat 64 u).toNat := BitVec.toNat_xor _ _
  have h2 : BitVec.allOnes 64 ^^^ BitVec.ofNat 64 u = ~~~(BitVec.ofNat 64 u) := by rw [BitVec.xor_comm]; exact BitVec.xor_allOnes
  rw [h2, BitVec.toNat_not, BitVec.toNat_ofNat, BitVec.toNat_allOnes, Nat.mod_eq_of_lt (by simpa using h)] at h1
  exact h1.symm
theorem wrap2 (n : Int) : IntKind.u64.wrap (IntKind.u64.wrap n * 2) = (((2 * n) % 18446744073709551616).toNat : Int) := by
  rw [IntKind.wrap_u64, IntKind.wrap_u64]; omega
theorem zig_neg {n : Int} (h : n < 0) : bits .xor .u64 IntKind.u64.max (IntKind.u64.wrap (IntKind.u64.wrap n * 2)) = (zig n : Int) := by
  rw [wrap2, show IntKind.u64.max = ((18446744073709551615 : Nat) : Int) by decide, u64_xor_nat _ _ (by omega) (by omega), xor_all _ (by omega)]
  unfold zig
  rw [if_pos h]
  omega
theorem zig_pos {n : Int} (h : ¬ n < 0) : IntKind.u64.wrap (IntKind.u64.wrap n * 2) = (zig n : Int) := by
  rw [wrap2]
  unfold zig
  rw [if_neg h]
theorem and127 (v : Nat) (h : v < 18446744073709551616) : bits .and .u64 (v : Int) 127 = ((v % 128 : Nat) : Int) := by
  have := u64_and_nat v 127 h (by omega)
  rw [nat_mask7] at this
  exact this
theorem or128 (v : Nat) (h : v < 128) : bits .or .u64 (v : Int) 128 = ((v + 128 : Nat) : Int) := by
  have := u64_or_nat v 128 (by omega) (by omega)
  rw [Nat.or_comm, nat_join 7 128 v (by decide) h, Nat.add_comm] at this
  exact this

set_option maxRecDepth 20000 in
set_option maxHeartbeats 4000000 in
/-- The loop over groups, from a number on. -/
theorem snum_any (B : Nat) (sv : Value) (l : List UInt8) (n : Int) (w : World) (h : BRow w B sv l) (hlen : l.length ≤ 100000000000) (hb : B ≤ w.heap.size) :
    Calls Tryz.prog 32 #[sv, .int .i64 n] w fun e w' => (∃ sv', e = .returned sv' ∧ BRow w' B sv' (l ++ numL n)) ∧ Kp B none w w' := by
  have HR : Hid (BRow w B sv l) := h
  have hzl := zig_lt n
  obtain ⟨u, hu⟩ : ∃ u, u = zig n := ⟨_, rfl⟩
  have HU : Hid (numL n = grp u) := by show _ = _; rw [hu]; rfl
  have z1 : n < 0 → bits .xor .u64 IntKind.u64.max (IntKind.u64.wrap (IntKind.u64.wrap n * 2)) = (u : Int) := by rw [hu]; exact zig_neg
  have z2 : ¬ n < 0 → IntKind.u64.wrap (IntKind.u64.wrap n * 2) = (u : Int) := by rw [hu]; exact zig_pos
  rw [← hu] at hzl
  clear h hu
  by_cases hn : n < 0
  case' pos =>
    go_enter Tryz.func32, Tryz.ntmps32
    go_wp2_with fail
    try rw [z1 hn]
  case' neg =>
    go_enter Tryz.func32, Tryz.ntmps32
    go_wp2_with fail
    try rw [z2 hn]
  all_goals
    clear z1 z2 hn
    go_loopw [0, 5] (fun o x wr => ∃ (sv1 : Value) (l1 : List UInt8) (v : Nat), sv1 = o ∧ x = .int .u64 (v : Int) ∧ v < 18446744073709551616 ∧ Hid (BRow wr B sv1 l1) ∧ Hid (l1 ++ grp v = l ++ numL n) ∧ Kp B none w wr) (fun _ x _ => (intOf x).toNat)
    case atStart => exact ⟨sv, l, u, rfl, rfl, hzl, HR, by show _ = _; rw [HU.out], Kp.refl _ _ _⟩
    case round =>
      clear HR hzl
      obtain ⟨sv1, l1, v, rfl, rfl, hv, HR, HE, hK⟩ := hrel
      have hl1 : l1.length ≤ 200000000000 := by
        have h1 := congrArg List.length HE.out
        have h2 := numL_le n
        simp only [List.length_append] at h1
        omega
      have hbw := Nat.le_trans hb hK.size
      by_cases k1 : v < 128
      · have k2 : ¬ 127 < (v : Int) := by omega
        obtain ⟨sv', w', HA, HR1, hK1⟩ := one_more B wr sv1 l1 (UInt8.ofNat v) (v : Int) (by rw [UInt8.toNat_ofNat']; omega) HR.out (by omega) hbw
        have HE1 : Hid (l1 ++ [UInt8.ofNat v] = l ++ numL n) := by show _ = _; rw [← HE.out, grp_small k1]
        have hK2 := hK.trans hK1
        clear hK1
        go_wp2_with (at_builtin; refine wpList_append_run rfl _ _ _ rfl _ _ _ _ rfl rfl HA.out ?_)
        go_ret
        exact ⟨⟨_, rfl, by rw [← HE1.out]; exact HR1.out⟩, hK2⟩
      · have k2 : 127 < (v : Int) := by omega
        have e1 := and127 v hv
        have hz : bits .or .u64 ((v : Int) % 128) 128 % 256 = ((UInt8.ofNat (v % 128 + 128)).toNat : Int) := by
          have e2 := or128 (v % 128) (by omega)
          rw [show ((v : Int) % 128) = ((v % 128 : Nat) : Int) by omega, e2, UInt8.toNat_ofNat']
          omega
        obtain ⟨sv', w', HA, HR1, hK1⟩ := one_more B wr sv1 l1 (UInt8.ofNat (v % 128 + 128)) (bits .or .u64 ((v : Int) % 128) 128 % 256) hz HR.out (by omega) hbw
        have HE1 : Hid ((l1 ++ [UInt8.ofNat (v % 128 + 128)]) ++ grp (v / 128) = l ++ numL n) := by show _ = _; rw [← HE.out, grp_big k1 hv, List.append_assoc]; rfl
        have hK2 := hK.trans hK1
        clear hK1 hz
        go_wp2_with (at_builtin; refine wpList_append_run rfl _ _ _ rfl _ _ _ _ rfl rfl HA.out ?_)
        go_roundw
        case rel => exact ⟨sv', _, v / 128, rfl, by congr 1, by omega, HR1, HE1, hK2⟩
        case measure => simp [intOf]; omega

set_option maxRecDepth 20000 in
set_option maxHeartbeats 1000000 in
theorem sflag_any (B : Nat) (sv : Value) (l : List UInt8) (b : Bool) (w : World) (h : BRow w B sv l) (hlen : l.length ≤ 100000000000) (hb : B ≤ w.heap.size) :
    Calls Tryz.prog 57 #[sv, .bool b] w fun e w' => (∃ sv', e = .returned sv' ∧ BRow w' B sv' (l ++ flagL b)) ∧ Kp B none w w' := by
  cases b
  · obtain ⟨sv', w', HA, HR1, hK1⟩ := one_more B w sv l 0 0 rfl h (by omega) hb
    clear h
    go_enter Tryz.func57, Tryz.ntmps57
    go_wp2_with (at_builtin; refine wpList_append_run rfl _ _ _ rfl _ _ _ _ rfl rfl HA.out ?_)
    go_ret
    exact ⟨⟨_, rfl, HR1.out⟩, hK1⟩
  · obtain ⟨sv', w', HA, HR1, hK1⟩ := one_more B w sv l 1 1 rfl h (by omega) hb
    clear h
    go_enter Tryz.func57, Tryz.ntmps57
    go_wp2_with (at_builtin; refine wpList_append_run rfl _ _ _ rfl _ _ _ _ rfl rfl HA.out ?_)
    go_ret
    exact ⟨⟨_, rfl, HR1.out⟩, hK1⟩

set_option maxRecDepth 20000 in
set_option maxHeartbeats 4000000 in
theorem stext_any (B : Nat) (sv : Value) (l : List UInt8) (s : ByteArray) (w : World) (h : BRow w B sv l) (hlen : l.length ≤ 1000000000) (hs : s.size ≤ 1000000000) (hb : B ≤ w.heap.size) :
    Calls Tryz.prog 56 #[sv, .string s] w fun e w' => (∃ sv', e = .returned sv' ∧ BRow w' B sv' (l ++ textL s)) ∧ Kp B none w w' := by
  go_enter Tryz.func56, Tryz.ntmps56
  go_wp2_with fail
  refine (snum_any B sv l (s.size : Int) w h (by omega) hb).mono ?_
  rintro e w1 ⟨⟨sv1, rfl, h1⟩, hK1⟩
  have HR1 : Hid (BRow w1 B sv1 (l ++ numL (s.size : Int))) := h1
  clear h h1
  go_wp2_with fail
  go_loopw [0, 5] (fun o i wr => ∃ (j : Nat) (sv2 : Value), j ≤ s.size ∧ i = .int .i64 j ∧ sv2 = o ∧ Hid (BRow wr B sv2 (l ++ numL (s.size : Int) ++ s.data.toList.take j)) ∧ Kp B none w wr) (fun _ i _ => s.size - (intOf i).toNat)
  case atStart => exact ⟨0, sv1, Nat.zero_le _, rfl, rfl, by show BRow _ _ _ _; simpa using HR1.out, hK1⟩
  case round =>
    clear HR1 hK1
    obtain ⟨j, sv2, hj, rfl, rfl, HR, hK⟩ := hrel
    have hbw := Nat.le_trans hb hK.size
    have hn := numL_le (s.size : Int)
    by_cases k4 : j < s.size
    · have HBY : Hid (s.data.toList.take (j + 1) = s.data.toList.take j ++ [s[j]]) := by
        show _ = _
        rw [List.take_add_one, List.getElem?_eq_getElem (by simpa using k4)]; rfl
      obtain ⟨sv', w', HA, HR1, hK1⟩ := one_more B wr sv2 _ s[j] (s[j].toNat : Int) rfl HR.out (by simp only [List.length_append, List.length_take]; omega) hbw
      have HR2 : Hid (BRow w' B sv' (l ++ numL (s.size : Int) ++ s.data.toList.take (j + 1))) := by show BRow _ _ _ _; rw [HBY.out, ← List.append_assoc]; exact HR1.out
      have hK2 := hK.trans hK1
      clear HR hK hK1 HR1 HBY hn
      go_wp2_with (at_builtin; refine wpList_append_run rfl _ _ _ rfl _ _ _ _ rfl rfl HA.out ?_)
      go_roundw
      case rel => exact ⟨j + 1, sv', by omega, by go_num, rfl, HR2, hK2⟩
      case measure => simp [intOf]; omega
    · have hje : j = s.size := by omega
      have HRE : Hid (BRow wr B sv2 (l ++ textL s)) := by
        have h := HR.out
        rw [List.take_of_length_le (by rw [hje]; exact Nat.le_refl _), List.append_assoc] at h
        exact h
      clear HR hn
      go_wp2_with fail
      go_ret
      exact ⟨⟨_, rfl, HRE.out⟩, hK⟩
end Go.Proofs.YtfkeklndcjkgcaaGreatDoor

/-
  OWN WORK. The specification's bits of a float.
-/
namespace Go.Proofs.YtfkeklndcjkgcaaGreatDoor
open Go.RowKit
set_option linter.unusedVariables false
set_option linter.unusedSimpArgs false

theorem run_negf (P : Program) (w : World) (k : FloatKind) (b : Nat) : (Op.unary .neg (.float k b)).run P w = .ok (.float k (Op.negFloat k b)) w := by simp [Op.unary]
theorem mul_run (x y z : Nat) (h : FloatKind.f64.format.mul x y = some z) (w : World) : (binOp .mul 111 (.float .f64 x) (.float .f64 y)).run Tryz.prog w = .ok (.float .f64 z) w := run_float_arith w .mul 111 .f64 _ _ _ h

theorem or_all (sg M L : Nat) (hs : sg = 0 ∨ sg = 9223372036854775808) (h1 : 4503599627370496 ≤ M) (h2 : M < 9007199254740992) (hL : L ≤ 2045) :
    bits .or .u64 (bits .or .u64 (sg : Int) (((L : Int) - 1074 + 1075) * 4503599627370496)) ((M : Int) - 4503599627370496) = (sg : Int) + ((L : Int) * 4503599627370496 + (M : Int)) := by
  have a1 : (((L : Int) - 1074 + 1075) * 4503599627370496) = (((L + 1) * 4503599627370496 : Nat) : Int) := by omega
  have a2 : ((M : Int) - 4503599627370496) = ((M - 4503599627370496 : Nat) : Int) := by omega
  rw [a1, a2, u64_or_nat _ _ (by omega) (by omega), nat_join 63 sg _ (by rcases hs with rfl | rfl <;> decide) (by simp only [show (2 : Nat) ^ 63 = 9223372036854775808 from rfl]; omega), u64_or_nat _ _ (by omega) (by omega), nat_join 52 _ _ (by simp only [show (2 : Nat) ^ 52 = 4503599627370496 from rfl]; omega) (by simp only [show (2 : Nat) ^ 52 = 4503599627370496 from rfl]; omega)]
  omega

set_option maxRecDepth 20000 in
set_option maxHeartbeats 8000000 in
theorem bits_fin (s : Bool) (x' x y M L : Nat) (w : World) (hx : x = Fl.fl M L) (h0 : 0 < M) (hc : Fl.Can M L) (o0 : if s = true then FloatKind.f64.format.order x' 0 = some .lt ∧ Op.negFloat .f64 x' = x else x' = x) (o1 : FloatKind.f64.format.order x 0 = some .gt) (o2 : FloatKind.f64.format.mul x 4602678819172646912 = some y) (o3 : FloatKind.f64.format.order y x = some .lt) :
    Calls Tryz.prog 108 #[.float .f64 x'] w fun e w' => e = .returned (.int .u64 (((if s then 9223372036854775808 else 0) + (L * 4503599627370496 + M) : Nat) : Int)) ∧ w' = w := by
  have HX : Hid (x = Fl.fl M L) := hx
  have HC : Hid (Fl.Can M L) := hc
  have hM : M < 9007199254740992 := hc.1
  have hL : L ≤ 2045 := hc.2.2
  have m1 := mul_run _ _ _ o2
  obtain ⟨sg, hsg⟩ : ∃ sg : Nat, sg = if s then 9223372036854775808 else 0 := ⟨_, rfl⟩
  have HS : Hid (sg = if s then 9223372036854775808 else 0) := hsg
  rw [← hsg]
  clear hx hc o2 hsg
  cases s
  case' false =>
    simp only [Bool.false_eq_true, if_false] at o0
    subst o0
    go_enter Tryz.func108, Tryz.ntmps108
    go_wp2_with fail
    clear o1 o3 m1
  case' true =>
    simp only [if_true] at o0
    obtain ⟨o4, o5⟩ := o0
    have o6 := run_negf Tryz.prog w .f64 x'
    rw [o5] at o6
    go_enter Tryz.func108, Tryz.ntmps108
    go_wp2_with fail
    clear o1 o3 m1 o4 o5 o6
  all_goals
    go_loopw [0, 4] (fun f e wr => ∃ (K : Nat), f = .float .f64 (Fl.fl M K) ∧ e = .int .i64 ((L : Int) - (K : Int)) ∧ K ≤ L ∧ (K = L ∨ 1074 ≤ K) ∧ Hid (wr = w)) (fun _ e _ => (3000 - intOf e).toNat)
    case atStart => exact ⟨L, by rw [HX.out], by simp, Nat.le_refl _, .inl rfl, rfl⟩
    case round =>
      clear HX
      obtain ⟨K, rfl, rfl, hK1, hK2, HW⟩ := hrel
      by_cases k1 : 1075 ≤ K
      · have hM2 : 4503599627370496 ≤ M := HC.out.2.1 (by omega)
        have m2 := mul_run _ _ _ (Fl.fl_half M K h0 hM (by omega) (by omega))
        rcases Fl.ord53_hi hM2 hM (show K ≤ 2045 by omega) k1 with o | o
        all_goals
          have o' : FloatKind.f64.format.order (Fl.fl M K) 4845873199050653696 = _ := o
          have m2' : (binOp .mul 111 (.float .f64 (Fl.fl M K)) (.float .f64 4602678819172646912)).run Tryz.prog wr = _ := m2 wr
          clear o m2
          go_wp2_with fail
          go_roundw
          case rel => exact ⟨K - 1, rfl, by congr 1; omega, by omega, by omega, HW⟩
          case measure => simp [intOf]; omega
      · have o' : FloatKind.f64.format.order (Fl.fl M K) 4845873199050653696 = some .lt := Fl.ord53_lo h0 hM (by omega)
        go_wp2_with fail
        clear o'
        go_loopw [0, 4] (fun f e wr => ∃ (K : Nat), f = .float .f64 (Fl.fl M K) ∧ e = .int .i64 ((L : Int) - (K : Int)) ∧ K ≤ 1074 ∧ (K = 1074 ∨ L ≤ K) ∧ Hid (wr = w)) (fun _ e _ => (intOf e + 3000).toNat)
        case atStart => exact ⟨K, rfl, rfl, by omega, by omega, HW⟩
        case round =>
          clear k1 hK1 hK2 HW
          obtain ⟨K, rfl, rfl, hK1, hK2, HW⟩ := hrel
          by_cases k1 : K < 1074
          · have o' : FloatKind.f64.format.order (Fl.fl M K) 4841369599423283200 = some .lt := Fl.ord52_lo h0 hM (by omega) (.inl k1)
            have m2' : (binOp .mul 111 (.float .f64 (Fl.fl M K)) (.float .f64 4611686018427387904)).run Tryz.prog wr = _ := mul_run _ _ _ (Fl.fl_two M K h0 hM (by omega)) wr
            have t1 : -1074 < (L : Int) - (K : Int) := by omega
            go_wp2_with fail
            go_roundw
            case rel => exact ⟨K + 1, rfl, by congr 1; omega, by omega, by omega, HW⟩
            case measure => simp [intOf]; omega
          · obtain rfl : K = 1074 := by omega
            have hcv : (convert 111 105 (.float .f64 (Fl.fl M 1074))).run Tryz.prog wr = .ok (.int .u64 (M : Int)) wr := run_convert_float_int wr 111 105 .f64 .u64 _ _ (by kernel_rfl) Tryz.underlying105 (Fl.conv_u64 M h0 hM)
            by_cases k2 : M < 4503599627370496
            · have hl0 : L = 0 := by
                rcases Nat.eq_zero_or_pos L with h | h
                · exact h
                · have := HC.out.2.1 h; omega
              subst hl0
              have o' : FloatKind.f64.format.order (Fl.fl M 1074) 4841369599423283200 = some .lt := Fl.ord52_lo h0 hM (by omega) (.inr k2)
              have k3 : (M : Int) < 4503599627370496 := by omega
              go_wp2_with fail
              go_ret
              refine ⟨?_, HW.out⟩
              rw [HS.out]
              first
                | (have z : bits .or .u64 9223372036854775808 (M : Int) = _ := Fl.or_sign M (by omega)
                   rw [z]; simp)
                | (have z : bits .or .u64 0 (M : Int) = _ := Fl.or_zero M (by omega)
                   rw [z]; simp)
            · have k3 : ¬ (M : Int) < 4503599627370496 := by omega
              rcases Fl.ord52_hi (show 4503599627370496 ≤ M by omega) hM with o | o
              all_goals
                have o' : FloatKind.f64.format.order (Fl.fl M 1074) 4841369599423283200 = _ := o
                clear o
                go_wp2_with fail
                go_ret
                refine ⟨?_, HW.out⟩
                rw [HS.out]
                first
                  | (have z : bits .or .u64 (bits .or .u64 9223372036854775808 (((L : Int) - 1074 + 1075) * 4503599627370496)) ((M : Int) - 4503599627370496) = _ := or_all 9223372036854775808 M L (.inr rfl) (by omega) hM hL
                     rw [z]; simp)
                  | (have z : bits .or .u64 (bits .or .u64 0 (((L : Int) - 1074 + 1075) * 4503599627370496)) ((M : Int) - 4503599627370496) = _ := or_all 0 M L (.inl rfl) (by omega) hM hL
                     rw [z]; simp)

set_option maxRecDepth 20000 in
set_option maxHeartbeats 2000000 in
theorem bits_zero (x : Nat) (w : World) (h : x = 0 ∨ x = 9223372036854775808 ∨ x = 9218868437227405312 ∨ x = 18442240474082181120) :
    Calls Tryz.prog 108 #[.float .f64 x] w fun e w' => e = .returned (.int .u64 (x : Int)) ∧ w' = w := by
  rcases h with rfl | rfl | rfl | rfl
  · have o1 : FloatKind.f64.format.order 0 0 = some .eq := by decide +kernel
    have o2 : FloatKind.f64.format.order 9218868437227405312 0 = some .gt := by decide +kernel
    have d1 : (binOp .quo 111 (.float .f64 4607182418800017408) (.float .f64 0)).run Tryz.prog w = .ok (.float .f64 9218868437227405312) w := run_float_arith w .quo 111 .f64 _ _ _ (by decide +kernel)
    go_enter Tryz.func108, Tryz.ntmps108
    go_wp2_with fail
    go_ret
    exact ⟨rfl, rfl⟩
  · have o1 : FloatKind.f64.format.order 9223372036854775808 0 = some .eq := by decide +kernel
    have o2 : FloatKind.f64.format.order 18442240474082181120 0 = some .lt := by decide +kernel
    have o4 : FloatKind.f64.format.order 0 0 = some .eq := by decide +kernel
    have d1 : (binOp .quo 111 (.float .f64 4607182418800017408) (.float .f64 9223372036854775808)).run Tryz.prog w = .ok (.float .f64 18442240474082181120) w := run_float_arith w .quo 111 .f64 _ _ _ (by decide +kernel)
    have o3 : (Op.unary .neg (.float .f64 9223372036854775808)).run Tryz.prog w = .ok (.float .f64 0) w := run_negf Tryz.prog w .f64 9223372036854775808
    go_enter Tryz.func108, Tryz.ntmps108
    go_wp2_with fail
    go_ret
    exact ⟨rfl, rfl⟩
  · have o1 : FloatKind.f64.format.order 9218868437227405312 0 = some .gt := by decide +kernel
    have o2 : FloatKind.f64.format.order 9218868437227405312 9218868437227405312 = some .eq := by decide +kernel
    have m1 := mul_run 9218868437227405312 4602678819172646912 9218868437227405312 (by decide +kernel)
    have z : bits .or .u64 0 9218868437227405312 = 9218868437227405312 := Fl.or_zero 9218868437227405312 (by omega)
    go_enter Tryz.func108, Tryz.ntmps108
    go_wp2_with fail
    go_ret
    exact ⟨rfl, rfl⟩
  · have o1 : FloatKind.f64.format.order 18442240474082181120 0 = some .lt := by decide +kernel
    have o2 : FloatKind.f64.format.order 9218868437227405312 0 = some .gt := by decide +kernel
    have o4 : FloatKind.f64.format.order 9218868437227405312 9218868437227405312 = some .eq := by decide +kernel
    have m1 := mul_run 9218868437227405312 4602678819172646912 9218868437227405312 (by decide +kernel)
    have o3 : (Op.unary .neg (.float .f64 18442240474082181120)).run Tryz.prog w = .ok (.float .f64 9218868437227405312) w := run_negf Tryz.prog w .f64 18442240474082181120
    have z : bits .or .u64 9223372036854775808 9218868437227405312 = 18442240474082181120 := Fl.or_sign 9218868437227405312 (by omega)
    go_enter Tryz.func108, Tryz.ntmps108
    go_wp2_with fail
    go_ret
    exact ⟨rfl, rfl⟩

/-- The bits of a float that is no NaN. -/
theorem bits_any (x : Nat) (w : World) (hx : x < 18446744073709551616) (hn : (!(FloatKind.f64.format.order x x == some .eq)) = false) :
    Calls Tryz.prog 108 #[.float .f64 x] w fun e w' => e = .returned (.int .u64 (x : Int)) ∧ w' = w := by
  by_cases h4 : x = 0 ∨ x = 9223372036854775808 ∨ x = 9218868437227405312 ∨ x = 18442240474082181120
  · exact bits_zero x w h4
  rcases Fl.read_cases x hx with ⟨s, M, L, hc, he, hr⟩ | ⟨s, hr⟩ | ⟨s, t, hr⟩
  · have h0 : 0 < M := by
      rcases Nat.eq_zero_or_pos M with h | h
      · subst h
        have hl : L = 0 := by
          rcases Nat.eq_zero_or_pos L with h | h
          · exact h
          · have := hc.2.1 h; omega
        subst hl
        cases s
        · rw [Fl.wd_false] at he; omega
        · rw [Fl.wd_true] at he; omega
      · exact h
    obtain ⟨y, o2, o3⟩ := Fl.half_ne M L h0 hc.1 hc.2.2
    have hf := Fl.fl_wd h0 hc
    have key := bits_fin s x (Fl.fl M L) y M L w rfl h0 hc (by
      cases s
      · simp only [Bool.false_eq_true, if_false]; rw [he, hf]
      · simp only [if_true]; rw [he, hf]; exact ⟨Fl.ord0_neg h0 hc, Fl.neg_wd hc⟩) (by rw [hf]; exact Fl.ord0_pos h0 hc) o2 o3
    have e : (if s then 9223372036854775808 else 0) + (L * 4503599627370496 + M) = x := by
      cases s
      · rw [he, Fl.wd_false]; simp
      · rw [he, Fl.wd_true]; simp
    rw [e] at key
    exact key
  · exfalso
    unfold Ieee.Format.read at hr
    have e1 : Ieee.double.signWeight = 9223372036854775808 := by decide
    have e3 : Ieee.double.infRung = 9218868437227405312 := by decide
    rw [e1, e3] at hr
    dsimp only at hr
    split at hr
    · cases hr
    · split at hr
      · cases hr
      · split at hr
        · omega
        · cases hr
  · exfalso
    have : FloatKind.f64.format.order x x = none := by
      show (Ieee.double.read x).order (Ieee.double.read x) = none
      rw [hr]; rfl
    rw [this] at hn
    simp at hn
end Go.Proofs.YtfkeklndcjkgcaaGreatDoor

/-
  OWN WORK. The specification's images: consts.
-/
namespace Go.Proofs.YtfkeklndcjkgcaaGreatDoor
open Go.RowKit
attribute [local go_sem] run_store_float
set_option linter.unusedVariables false
set_option linter.unusedSimpArgs false

/-- One byte more, behind a new block. -/
theorem one_more2 (B : Nat) (w : World) (o : Obj) (sv : Value) (l : List UInt8) (c : UInt8) (z : Int) (hz : z = (c.toNat : Int)) (ho : BRow w B sv l) (hlen : l.length ≤ 900000000000) (hb : B ≤ w.heap.size) :
    ∃ sv' w', Hid ((Builtin.append_ #[33, 33] 33 #[sv, .slice (some ⟨w.heap.size + 1, 0, none⟩) 1 1]).run Tryz.prog ((w.alloc o).alloc (.cells #[.int .u8 z] 5)) = .ok sv' w') ∧ Hid (BRow w' B sv' (l ++ [c])) ∧ Kp B none w w' ∧ Kp B none (w.alloc o) w' := by
  have hy := bw1 w o
  obtain ⟨sv', w', h1, h2, h3⟩ := one_more B (w.alloc o) sv l c z hz (ho.later hy) hlen (by simp; omega)
  rw [show (w.alloc o).heap.size = w.heap.size + 1 by simp] at h1
  exact ⟨sv', w', h1, h2, (Kp.of_below hy).trans h3, h3⟩

set_option maxRecDepth 20000 in
set_option maxHeartbeats 4000000 in
theorem sconst_num (B : Nat) (sv : Value) (l : List UInt8) (k n : Int) (f : Nat) (s : ByteArray) (r : Int) (c : UInt8) (w : World) (h : BRow w B sv l) (hlen : l.length ≤ 1000000000) (hb : B ≤ w.heap.size) (hk : k = 1 ∨ k = 2 ∨ k = 8) (hc : k = (c.toNat : Int)) :
    Calls Tryz.prog 58 #[sv, VV k n f s r] w fun e w' => (∃ sv', e = .returned sv' ∧ BRow w' B sv' (l ++ ([c] ++ numL n))) ∧ Kp B none w w' := by
  obtain ⟨sv1, w1, HA, HR1, hK, hK1⟩ := one_more2 B w (VO k n f s r) sv l c k hc h (by omega) hb
  have HX : Hid (w1.heap[w.heap.size]? = some (VO k n f s r)) := hK1.blk (blk_new _ _) (by decide) (by simp)
  have x0 : w1.cell? ⟨w.heap.size, 0, none⟩ = some (.int .i64 k) := by rw [blk_cell HX.out]; rfl
  have x1 : w1.cell? ⟨w.heap.size, 1, none⟩ = some (.int .i64 n) := by rw [blk_cell HX.out]; rfl
  clear h hK1 hc HX
  rcases hk with rfl | rfl | rfl
  all_goals
    go_enter Tryz.func58, Tryz.ntmps58
    go_wp2_with (at_builtin; refine wpList_append_run rfl _ _ _ rfl _ _ _ _ rfl rfl HA.out ?_)
    refine (snum_any B sv1 (l ++ [c]) n w1 HR1.out (by simp; omega) (Nat.le_trans hb hK.size)).mono ?_
    rintro e w2 ⟨⟨sv2, rfl, h2⟩, hK2⟩
    go_wp2_with fail
    go_ret
    exact ⟨⟨_, rfl, by have h3 := h2; rw [List.append_assoc] at h3; exact h3⟩, hK.trans hK2⟩

set_option maxRecDepth 20000 in
set_option maxHeartbeats 4000000 in
theorem sconst_str (B : Nat) (sv : Value) (l : List UInt8) (n : Int) (f : Nat) (s : ByteArray) (r : Int) (w : World) (h : BRow w B sv l) (hlen : l.length ≤ 100000000) (hs : s.size ≤ 4000) (hb : B ≤ w.heap.size) :
    Calls Tryz.prog 58 #[sv, VV 4 n f s r] w fun e w' => (∃ sv', e = .returned sv' ∧ BRow w' B sv' (l ++ ([4] ++ textL s))) ∧ Kp B none w w' := by
  obtain ⟨sv1, w1, HA, HR1, hK, hK1⟩ := one_more2 B w (VO 4 n f s r) sv l 4 4 rfl h (by omega) hb
  have HX : Hid (w1.heap[w.heap.size]? = some (VO 4 n f s r)) := hK1.blk (blk_new _ _) (by decide) (by simp)
  have x0 : w1.cell? ⟨w.heap.size, 0, none⟩ = some (.int .i64 4) := by rw [blk_cell HX.out]; rfl
  have x1 : w1.cell? ⟨w.heap.size, 3, none⟩ = some (.string s) := by rw [blk_cell HX.out]; rfl
  clear h hK1 HX
  go_enter Tryz.func58, Tryz.ntmps58
  go_wp2_with (at_builtin; refine wpList_append_run rfl _ _ _ rfl _ _ _ _ rfl rfl HA.out ?_)
  refine (stext_any B sv1 (l ++ [4]) s w1 HR1.out (by simp; omega) (by omega) (Nat.le_trans hb hK.size)).mono ?_
  rintro e w2 ⟨⟨sv2, rfl, h2⟩, hK2⟩
  go_wp2_with fail
  go_ret
  exact ⟨⟨_, rfl, by have h3 := h2; rw [List.append_assoc] at h3; exact h3⟩, hK.trans hK2⟩

set_option maxRecDepth 20000 in
set_option maxHeartbeats 4000000 in
theorem sconst_nil (B : Nat) (sv : Value) (l : List UInt8) (n : Int) (f : Nat) (s : ByteArray) (r : Int) (w : World) (h : BRow w B sv l) (hlen : l.length ≤ 100000000) (hb : B ≤ w.heap.size) :
    Calls Tryz.prog 58 #[sv, VV 0 n f s r] w fun e w' => (∃ sv', e = .returned sv' ∧ BRow w' B sv' (l ++ [0])) ∧ Kp B none w w' := by
  obtain ⟨sv1, w1, HA, HR1, hK, hK1⟩ := one_more2 B w (VO 0 n f s r) sv l 0 0 rfl h (by omega) hb
  have HX : Hid (w1.heap[w.heap.size]? = some (VO 0 n f s r)) := hK1.blk (blk_new _ _) (by decide) (by simp)
  have x0 : w1.cell? ⟨w.heap.size, 0, none⟩ = some (.int .i64 0) := by rw [blk_cell HX.out]; rfl
  clear h hK1 HX
  go_enter Tryz.func58, Tryz.ntmps58
  go_wp2_with (at_builtin; refine wpList_append_run rfl _ _ _ rfl _ _ _ _ rfl rfl HA.out ?_)
  go_ret
  exact ⟨⟨_, rfl, HR1.out⟩, hK⟩

set_option maxRecDepth 20000 in
set_option maxHeartbeats 4000000 in
theorem sconst_flt (B : Nat) (sv : Value) (l : List UInt8) (n : Int) (f : Nat) (s : ByteArray) (r : Int) (w : World) (h : BRow w B sv l) (hlen : l.length ≤ 100000000) (hf : f < 18446744073709551616) (hn : nanB f = false) (hb : B ≤ w.heap.size) :
    Calls Tryz.prog 58 #[sv, VV 3 n f s r] w fun e w' => (∃ sv', e = .returned sv' ∧ BRow w' B sv' (l ++ ([3] ++ bitsL f))) ∧ Kp B none w w' := by
  obtain ⟨sv1, w1, HA, HR1, hK, hK1⟩ := one_more2 B w (VO 3 n f s r) sv l 3 3 rfl h (by omega) hb
  have HX : Hid (w1.heap[w.heap.size]? = some (VO 3 n f s r)) := hK1.blk (blk_new _ _) (by decide) (by simp)
  have x0 : w1.cell? ⟨w.heap.size, 0, none⟩ = some (.int .i64 3) := by rw [blk_cell HX.out]; rfl
  have x1 : w1.cell? ⟨w.heap.size, 2, none⟩ = some (.float .f64 f) := by rw [blk_cell HX.out]; rfl
  clear h hK1 HX
  go_enter Tryz.func58, Tryz.ntmps58
  go_wp2_with (at_builtin; refine wpList_append_run rfl _ _ _ rfl _ _ _ _ rfl rfl HA.out ?_)
  refine (bits_any f w1 hf hn).mono ?_
  rintro e w2 ⟨rfl, hw2⟩
  have HW2 : Hid (w2 = w1) := hw2
  clear hw2
  go_wp2_with fail
  go_loopw [0, 6] (fun o i wr => ∃ (m : Nat) (sv2 : Value), m ≤ 8 ∧ i = .int .i64 m ∧ sv2 = o ∧ Hid (BRow wr B sv2 (l ++ [3] ++ (bitsL f).take m)) ∧ Kp B none w wr) (fun _ i _ => 8 - (intOf i).toNat)
  case atStart => exact ⟨0, sv1, Nat.zero_le _, rfl, rfl, by show BRow _ _ _ _; rw [HW2.out]; simpa using HR1.out, by rw [HW2.out]; exact hK⟩
  case round =>
    clear HR1 hK HW2 HA x0 x1
    obtain ⟨m, sv2, hm, rfl, rfl, HR, hK⟩ := hrel
    have hbw := Nat.le_trans hb hK.size
    by_cases k4 : m < 8
    · have hz : (f : Int) / 2 ^ (56 - 8 * m) % 256 = ((byteI f m).toNat : Int) := by
        unfold byteI
        rw [UInt8.toNat_ofNat', Int.natCast_emod, Int.natCast_ediv, Int.natCast_pow]
        rfl
      have HB : Hid ((bitsL f).take (m + 1) = (bitsL f).take m ++ [byteI f m]) := by
        show _ = _
        rw [List.take_add_one, show (bitsL f)[m]? = some (byteI f m) by simp [bitsL, k4]]
        rfl
      obtain ⟨sv', w', HA, HR1, hK1⟩ := one_more B wr sv2 _ (byteI f m) _ hz HR.out (by simp only [List.length_append, List.length_take, List.length_cons, List.length_nil]; omega) hbw
      have HR2 : Hid (BRow w' B sv' (l ++ [3] ++ (bitsL f).take (m + 1))) := by show BRow _ _ _ _; rw [HB.out, ← List.append_assoc]; exact HR1.out
      have hK2 := hK.trans hK1
      clear HR hK hK1 HR1 HB hz
      go_wp2_with (at_builtin; refine wpList_append_run rfl _ _ _ rfl _ _ _ _ rfl rfl HA.out ?_)
      go_roundw
      case rel => exact ⟨m + 1, sv', by omega, by go_num, rfl, HR2, hK2⟩
      case measure => simp [intOf]; omega
    · obtain rfl : m = 8 := by omega
      have HRE : Hid (BRow wr B sv2 (l ++ 3 :: bitsL f)) := by
        have h := HR.out
        rw [List.take_of_length_le (by simp [bitsL]), List.append_assoc] at h
        exact h
      clear HR
      go_wp2_with fail
      go_ret
      exact ⟨⟨_, rfl, HRE.out⟩, hK⟩

/-- A const. -/
theorem sconst_any (B : Nat) (sv : Value) (l : List UInt8) (v : VD) (w : World) (hv : CSm v) (h : BRow w B sv l) (hlen : l.length ≤ 100000000) (hb : B ≤ w.heap.size) :
    Calls Tryz.prog 58 #[sv, VV v.k v.n v.f v.s v.r] w fun e w' => (∃ sv', e = .returned sv' ∧ BRow w' B sv' (l ++ constL v)) ∧ Kp B none w w' := by
  obtain ⟨hk, hs, hf, hn⟩ := hv
  obtain ⟨k, n, f, s, r⟩ := v
  dsimp only at hk hs hf hn ⊢
  rcases hk with rfl | rfl | rfl | rfl | rfl | rfl
  · exact sconst_nil B sv l n f s r w h hlen hb
  · exact sconst_num B sv l 1 n f s r 1 w h (by omega) hb (by omega) rfl
  · exact sconst_num B sv l 2 n f s r 2 w h (by omega) hb (by omega) rfl
  · exact sconst_flt B sv l n f s r w h hlen hf (hn rfl) hb
  · exact sconst_str B sv l n f s r w h hlen (hs rfl) hb
  · exact sconst_num B sv l 8 n f s r 8 w h (by omega) hb (by omega) rfl
end Go.Proofs.YtfkeklndcjkgcaaGreatDoor
