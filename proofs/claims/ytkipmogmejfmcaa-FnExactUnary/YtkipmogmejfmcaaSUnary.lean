/-
  OWN WORK. The contracts of Unary, the specification's.
-/
import Derived.Test.YtkipmogmejfmcaaTruth
import Derived.Test.YtkipmogmejfmcaaSlot
namespace Go.Proofs.Ytkipmogmejfmcaa
open Go.RowKit
attribute [local go_sem] run_store_float
attribute [local go_sem] run_neg_float
set_option linter.unusedVariables false

set_option maxRecDepth 20000 in
set_option maxHeartbeats 400000 in
theorem sun_bad (o : Int) (k n : Int) (f : Nat) (s : ByteArray) (r : Int) (w : World) (hs : s.size ≤ maxLen) (hv : vok k n f s r = false) :
    Calls Try.prog 33 #[.int .i64 o, VV k n f s r] w fun e w' => e = .returned (RV 1 0 0 0 ⟨#[]⟩ 0) ∧ Below w.heap.size w w' := by
  go_enter Try.func33, Try.ntmps33
  go_wp2_with fail
  refine (vok_any _ _ _ _ _ _ hs).mono ?_
  rintro e w101 ⟨rfl, hx⟩
  obtain ⟨hb, sl, c0, c1, c2, c3, c4⟩ := box5s hx
  clear hx
  go_wp2_with fail
  refine (mk_fail _ _).mono ?_
  rintro e w102 ⟨rfl, hx⟩
  replace hb := hb.trans (hx.mono hb.size)
  replace sl := Slot.later hx sl
  clear hx
  obtain ⟨v0, v1, v2, v3, v4, v5, d0, d1, d2, d3, d4, d5, z, hz⟩ := sl.cells
  go_wp2_with fail
  exact bodyPost_ret (v := RV 1 0 0 0 ⟨#[]⟩ 0) (by simp [results, Try.results33, go_sem, d0, d1, d2, d3, d4, d5]) rfl ⟨rfl, below6 hb (by omega) _ _ _ _ _ _⟩

set_option maxRecDepth 20000 in
set_option maxHeartbeats 400000 in
theorem sun_not (k n : Int) (f : Nat) (s : ByteArray) (r : Int) (w : World) (hs : s.size ≤ maxLen) (hv : vok k n f s r = true) :
    Calls Try.prog 33 #[.int .i64 21, VV k n f s r] w fun e w' => e = .returned (RV 0 1 (b01 (!tru k n f s r)) 0 ⟨#[]⟩ 0) ∧ Below w.heap.size w w' := by
  go_enter Try.func33, Try.ntmps33
  go_wp2_with fail
  refine (vok_any _ _ _ _ _ _ hs).mono ?_
  rintro e w103 ⟨rfl, hx⟩
  obtain ⟨hb, sl, c0, c1, c2, c3, c4⟩ := box5s hx
  clear hx
  go_wp2_with fail
  refine (stru_any _ _ _ _ _ _ hs).mono ?_
  rintro e w104 ⟨rfl, hx⟩
  replace hb := hb.trans (hx.mono hb.size)
  replace sl := Slot.later hx sl
  clear hx
  go_wp2_with fail
  refine (mk_bool _ _).mono ?_
  rintro e w105 ⟨rfl, hx⟩
  replace hb := hb.trans (hx.mono hb.size)
  replace sl := Slot.later hx sl
  clear hx
  go_wp2_with fail
  refine (mk_got _ _ _ _ _ _).mono ?_
  rintro e w106 ⟨rfl, hx⟩
  replace hb := hb.trans (hx.mono hb.size)
  replace sl := Slot.later hx sl
  clear hx
  obtain ⟨v0, v1, v2, v3, v4, v5, d0, d1, d2, d3, d4, d5, z, hz⟩ := sl.cells
  go_wp2_with fail
  exact bodyPost_ret (v := RV 0 1 (b01 (!tru k n f s r)) 0 ⟨#[]⟩ 0) (by simp [results, Try.results33, go_sem, d0, d1, d2, d3, d4, d5]) rfl ⟨rfl, below6 hb (by omega) _ _ _ _ _ _⟩

set_option maxRecDepth 20000 in
set_option maxHeartbeats 400000 in
theorem sun_negi (n : Int) (f : Nat) (s : ByteArray) (r : Int) (w : World) (hs : s.size ≤ maxLen) (hv : vok 2 n f s r = true) :
    Calls Try.prog 33 #[.int .i64 19, VV 2 n f s r] w fun e w' => e = .returned (RV 0 2 (wrap64 (-n)) 0 ⟨#[]⟩ 0) ∧ Below w.heap.size w w' := by
  go_enter Try.func33, Try.ntmps33
  go_wp2_with fail
  refine (vok_any _ _ _ _ _ _ hs).mono ?_
  rintro e w107 ⟨rfl, hx⟩
  obtain ⟨hb, sl, c0, c1, c2, c3, c4⟩ := box5s hx
  clear hx
  go_wp2_with fail
  refine (mk_int _ _).mono ?_
  rintro e w108 ⟨rfl, hx⟩
  replace hb := hb.trans (hx.mono hb.size)
  replace sl := Slot.later hx sl
  clear hx
  go_wp2_with fail
  refine (mk_got _ _ _ _ _ _).mono ?_
  rintro e w109 ⟨rfl, hx⟩
  replace hb := hb.trans (hx.mono hb.size)
  replace sl := Slot.later hx sl
  clear hx
  obtain ⟨v0, v1, v2, v3, v4, v5, d0, d1, d2, d3, d4, d5, z, hz⟩ := sl.cells
  go_wp2_with fail
  exact bodyPost_ret (v := RV 0 2 (wrap64 (-n)) 0 ⟨#[]⟩ 0) (by simp [results, Try.results33, go_sem, d0, d1, d2, d3, d4, d5]) rfl ⟨rfl, below6 hb (by omega) _ _ _ _ _ _⟩

set_option maxRecDepth 20000 in
set_option maxHeartbeats 400000 in
theorem sun_negf (n : Int) (f : Nat) (s : ByteArray) (r : Int) (w : World) (hs : s.size ≤ maxLen) (hv : vok 3 n f s r = true) :
    Calls Try.prog 33 #[.int .i64 19, VV 3 n f s r] w fun e w' => e = .returned (RV 0 3 0 (Op.negFloat .f64 f) ⟨#[]⟩ 0) ∧ Below w.heap.size w w' := by
  go_enter Try.func33, Try.ntmps33
  go_wp2_with fail
  refine (vok_any _ _ _ _ _ _ hs).mono ?_
  rintro e w110 ⟨rfl, hx⟩
  obtain ⟨hb, sl, c0, c1, c2, c3, c4⟩ := box5s hx
  clear hx
  go_wp2_with fail
  refine (mk_flt _ _).mono ?_
  rintro e w111 ⟨rfl, hx⟩
  replace hb := hb.trans (hx.mono hb.size)
  replace sl := Slot.later hx sl
  clear hx
  go_wp2_with fail
  refine (mk_got _ _ _ _ _ _).mono ?_
  rintro e w112 ⟨rfl, hx⟩
  replace hb := hb.trans (hx.mono hb.size)
  replace sl := Slot.later hx sl
  clear hx
  obtain ⟨v0, v1, v2, v3, v4, v5, d0, d1, d2, d3, d4, d5, z, hz⟩ := sl.cells
  go_wp2_with fail
  exact bodyPost_ret (v := RV 0 3 0 (Op.negFloat .f64 f) ⟨#[]⟩ 0) (by simp [results, Try.results33, go_sem, d0, d1, d2, d3, d4, d5]) rfl ⟨rfl, below6 hb (by omega) _ _ _ _ _ _⟩

set_option maxRecDepth 20000 in
set_option maxHeartbeats 400000 in
theorem sun_flip (n : Int) (f : Nat) (s : ByteArray) (r : Int) (w : World) (hs : s.size ≤ maxLen) (hv : vok 2 n f s r = true) :
    Calls Try.prog 33 #[.int .i64 20, VV 2 n f s r] w fun e w' => e = .returned (RV 0 2 (bits .xor .i64 (-1) n) 0 ⟨#[]⟩ 0) ∧ Below w.heap.size w w' := by
  go_enter Try.func33, Try.ntmps33
  go_wp2_with fail
  refine (vok_any _ _ _ _ _ _ hs).mono ?_
  rintro e w113 ⟨rfl, hx⟩
  obtain ⟨hb, sl, c0, c1, c2, c3, c4⟩ := box5s hx
  clear hx
  go_wp2_with fail
  refine (mk_int _ _).mono ?_
  rintro e w114 ⟨rfl, hx⟩
  replace hb := hb.trans (hx.mono hb.size)
  replace sl := Slot.later hx sl
  clear hx
  go_wp2_with fail
  refine (mk_got _ _ _ _ _ _).mono ?_
  rintro e w115 ⟨rfl, hx⟩
  replace hb := hb.trans (hx.mono hb.size)
  replace sl := Slot.later hx sl
  clear hx
  obtain ⟨v0, v1, v2, v3, v4, v5, d0, d1, d2, d3, d4, d5, z, hz⟩ := sl.cells
  go_wp2_with fail
  exact bodyPost_ret (v := RV 0 2 (bits .xor .i64 (-1) n) 0 ⟨#[]⟩ 0) (by simp [results, Try.results33, go_sem, d0, d1, d2, d3, d4, d5]) rfl ⟨rfl, below6 hb (by omega) _ _ _ _ _ _⟩

set_option maxRecDepth 20000 in
set_option maxHeartbeats 400000 in
theorem sun_len (n : Int) (f : Nat) (s : ByteArray) (r : Int) (w : World) (hs : s.size ≤ maxLen) (hv : vok 4 n f s r = true) :
    Calls Try.prog 33 #[.int .i64 22, VV 4 n f s r] w fun e w' => e = .returned (RV 0 2 s.size 0 ⟨#[]⟩ 0) ∧ Below w.heap.size w w' := by
  go_enter Try.func33, Try.ntmps33
  go_wp2_with fail
  refine (vok_any _ _ _ _ _ _ hs).mono ?_
  rintro e w116 ⟨rfl, hx⟩
  obtain ⟨hb, sl, c0, c1, c2, c3, c4⟩ := box5s hx
  clear hx
  go_wp2_with fail
  refine (mk_int _ _).mono ?_
  rintro e w117 ⟨rfl, hx⟩
  replace hb := hb.trans (hx.mono hb.size)
  replace sl := Slot.later hx sl
  clear hx
  go_wp2_with fail
  refine (mk_got _ _ _ _ _ _).mono ?_
  rintro e w118 ⟨rfl, hx⟩
  replace hb := hb.trans (hx.mono hb.size)
  replace sl := Slot.later hx sl
  clear hx
  obtain ⟨v0, v1, v2, v3, v4, v5, d0, d1, d2, d3, d4, d5, z, hz⟩ := sl.cells
  go_wp2_with fail
  exact bodyPost_ret (v := RV 0 2 s.size 0 ⟨#[]⟩ 0) (by simp [results, Try.results33, go_sem, d0, d1, d2, d3, d4, d5]) rfl ⟨rfl, below6 hb (by omega) _ _ _ _ _ _⟩

set_option maxRecDepth 20000 in
set_option maxHeartbeats 400000 in
theorem sun_neg_no (k n : Int) (f : Nat) (s : ByteArray) (r : Int) (w : World) (hs : s.size ≤ maxLen) (hv : vok k n f s r = true) (h2 : (k == 2) = false) (h3 : (k == 3) = false) :
    Calls Try.prog 33 #[.int .i64 19, VV k n f s r] w fun e w' => e = .returned (RV 1 0 0 0 ⟨#[]⟩ 0) ∧ Below w.heap.size w w' := by
  go_enter Try.func33, Try.ntmps33
  go_wp2_with fail
  refine (vok_any _ _ _ _ _ _ hs).mono ?_
  rintro e w119 ⟨rfl, hx⟩
  obtain ⟨hb, sl, c0, c1, c2, c3, c4⟩ := box5s hx
  clear hx
  go_wp2_with fail
  refine (mk_fail _ _).mono ?_
  rintro e w120 ⟨rfl, hx⟩
  replace hb := hb.trans (hx.mono hb.size)
  replace sl := Slot.later hx sl
  clear hx
  obtain ⟨v0, v1, v2, v3, v4, v5, d0, d1, d2, d3, d4, d5, z, hz⟩ := sl.cells
  go_wp2_with fail
  exact bodyPost_ret (v := RV 1 0 0 0 ⟨#[]⟩ 0) (by simp [results, Try.results33, go_sem, d0, d1, d2, d3, d4, d5]) rfl ⟨rfl, below6 hb (by omega) _ _ _ _ _ _⟩

set_option maxRecDepth 20000 in
set_option maxHeartbeats 400000 in
theorem sun_flip_no (k n : Int) (f : Nat) (s : ByteArray) (r : Int) (w : World) (hs : s.size ≤ maxLen) (hv : vok k n f s r = true) (h2 : (k == 2) = false) :
    Calls Try.prog 33 #[.int .i64 20, VV k n f s r] w fun e w' => e = .returned (RV 1 0 0 0 ⟨#[]⟩ 0) ∧ Below w.heap.size w w' := by
  go_enter Try.func33, Try.ntmps33
  go_wp2_with fail
  refine (vok_any _ _ _ _ _ _ hs).mono ?_
  rintro e w121 ⟨rfl, hx⟩
  obtain ⟨hb, sl, c0, c1, c2, c3, c4⟩ := box5s hx
  clear hx
  go_wp2_with fail
  refine (mk_fail _ _).mono ?_
  rintro e w122 ⟨rfl, hx⟩
  replace hb := hb.trans (hx.mono hb.size)
  replace sl := Slot.later hx sl
  clear hx
  obtain ⟨v0, v1, v2, v3, v4, v5, d0, d1, d2, d3, d4, d5, z, hz⟩ := sl.cells
  go_wp2_with fail
  exact bodyPost_ret (v := RV 1 0 0 0 ⟨#[]⟩ 0) (by simp [results, Try.results33, go_sem, d0, d1, d2, d3, d4, d5]) rfl ⟨rfl, below6 hb (by omega) _ _ _ _ _ _⟩

set_option maxRecDepth 20000 in
set_option maxHeartbeats 400000 in
theorem sun_len_no (k n : Int) (f : Nat) (s : ByteArray) (r : Int) (w : World) (hs : s.size ≤ maxLen) (hv : vok k n f s r = true) (h2 : (k == 4) = false) :
    Calls Try.prog 33 #[.int .i64 22, VV k n f s r] w fun e w' => e = .returned (RV 1 0 0 0 ⟨#[]⟩ 0) ∧ Below w.heap.size w w' := by
  go_enter Try.func33, Try.ntmps33
  go_wp2_with fail
  refine (vok_any _ _ _ _ _ _ hs).mono ?_
  rintro e w123 ⟨rfl, hx⟩
  obtain ⟨hb, sl, c0, c1, c2, c3, c4⟩ := box5s hx
  clear hx
  go_wp2_with fail
  refine (mk_fail _ _).mono ?_
  rintro e w124 ⟨rfl, hx⟩
  replace hb := hb.trans (hx.mono hb.size)
  replace sl := Slot.later hx sl
  clear hx
  obtain ⟨v0, v1, v2, v3, v4, v5, d0, d1, d2, d3, d4, d5, z, hz⟩ := sl.cells
  go_wp2_with fail
  exact bodyPost_ret (v := RV 1 0 0 0 ⟨#[]⟩ 0) (by simp [results, Try.results33, go_sem, d0, d1, d2, d3, d4, d5]) rfl ⟨rfl, below6 hb (by omega) _ _ _ _ _ _⟩

set_option maxRecDepth 20000 in
set_option maxHeartbeats 400000 in
theorem sun_op_no (o : Int) (k n : Int) (f : Nat) (s : ByteArray) (r : Int) (w : World) (hs : s.size ≤ maxLen) (hv : vok k n f s r = true) (h19 : (o == 19) = false) (h20 : (o == 20) = false) (h21 : (o == 21) = false) (h22 : (o == 22) = false) :
    Calls Try.prog 33 #[.int .i64 o, VV k n f s r] w fun e w' => e = .returned (RV 1 0 0 0 ⟨#[]⟩ 0) ∧ Below w.heap.size w w' := by
  go_enter Try.func33, Try.ntmps33
  go_wp2_with fail
  refine (vok_any _ _ _ _ _ _ hs).mono ?_
  rintro e w125 ⟨rfl, hx⟩
  obtain ⟨hb, sl, c0, c1, c2, c3, c4⟩ := box5s hx
  clear hx
  go_wp2_with fail
  refine (mk_fail _ _).mono ?_
  rintro e w126 ⟨rfl, hx⟩
  replace hb := hb.trans (hx.mono hb.size)
  replace sl := Slot.later hx sl
  clear hx
  obtain ⟨v0, v1, v2, v3, v4, v5, d0, d1, d2, d3, d4, d5, z, hz⟩ := sl.cells
  go_wp2_with fail
  exact bodyPost_ret (v := RV 1 0 0 0 ⟨#[]⟩ 0) (by simp [results, Try.results33, go_sem, d0, d1, d2, d3, d4, d5]) rfl ⟨rfl, below6 hb (by omega) _ _ _ _ _ _⟩
end Go.Proofs.Ytkipmogmejfmcaa
