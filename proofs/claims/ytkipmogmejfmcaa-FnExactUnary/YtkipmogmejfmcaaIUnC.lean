/-
  OWN WORK. The contracts of Unary, the program's: OpNot.
-/
import Derived.Test.YtkipmogmejfmcaaTruth
import Derived.Test.YtkipmogmejfmcaaSlot
namespace Go.Proofs.Ytkipmogmejfmcaa
open Go.RowKit
attribute [local go_sem] run_store_float
attribute [local go_sem] m_nil_truth m_bool_truth m_int_truth m_flt_truth m_str_truth m_builtin_truth m_ref_truth
set_option linter.unusedVariables false

set_option maxHeartbeats 400000 in
theorem tr_nil  (w : World) : Calls Try.prog 151 #[.agg #[]] w fun e w' => e = .returned (.bool false) ∧ Below w.heap.size w w' := by
  go_enter Try.func151, Try.ntmps151
  go_wp2
  go_ret
  exact ⟨rfl, by first | exact Below.refl _ _ | exact bw1 _ _⟩

set_option maxHeartbeats 400000 in
theorem tr_bool (b : Bool) (w : World) : Calls Try.prog 159 #[.bool b] w fun e w' => e = .returned (.bool b) ∧ Below w.heap.size w w' := by
  go_enter Try.func159, Try.ntmps159
  go_wp2
  go_ret
  exact ⟨rfl, by first | exact Below.refl _ _ | exact bw1 _ _⟩

set_option maxHeartbeats 400000 in
theorem tr_int (v : Value) (w : World) : Calls Try.prog 155 #[v] w fun e w' => e = .returned (.bool true) ∧ Below w.heap.size w w' := by
  go_enter Try.func155, Try.ntmps155
  go_wp2
  go_ret
  exact ⟨rfl, by first | exact Below.refl _ _ | exact bw1 _ _⟩

set_option maxHeartbeats 400000 in
theorem tr_flt (v : Value) (w : World) : Calls Try.prog 153 #[v] w fun e w' => e = .returned (.bool true) ∧ Below w.heap.size w w' := by
  go_enter Try.func153, Try.ntmps153
  go_wp2
  go_ret
  exact ⟨rfl, by first | exact Below.refl _ _ | exact bw1 _ _⟩

set_option maxHeartbeats 400000 in
theorem tr_str (v : Value) (w : World) : Calls Try.prog 157 #[v] w fun e w' => e = .returned (.bool true) ∧ Below w.heap.size w w' := by
  go_enter Try.func157, Try.ntmps157
  go_wp2
  go_ret
  exact ⟨rfl, by first | exact Below.refl _ _ | exact bw1 _ _⟩

set_option maxHeartbeats 400000 in
theorem tr_builtin (v : Value) (w : World) : Calls Try.prog 163 #[v] w fun e w' => e = .returned (.bool true) ∧ Below w.heap.size w w' := by
  go_enter Try.func163, Try.ntmps163
  go_wp2
  go_ret
  exact ⟨rfl, by first | exact Below.refl _ _ | exact bw1 _ _⟩

set_option maxHeartbeats 400000 in
theorem tr_ref (a b : Int) (w : World) : Calls Try.prog 161 #[.agg #[.int .i64 a, .int .i64 b]] w fun e w' => e = .returned (.bool true) ∧ Below w.heap.size w w' := by
  go_enter Try.func161, Try.ntmps161
  go_wp2
  go_ret
  exact ⟨rfl, by first | exact Below.refl _ _ | exact bw1 _ _⟩

set_option maxRecDepth 20000 in
set_option maxHeartbeats 400000 in
theorem iun21_0 (n : Int) (f : Nat) (s : ByteArray) (r : Int) (w : World) (hv : vok 0 n f s r = true) :
    Calls Try.prog 34 #[.int .i64 21, VV 0 n f s r] w fun e w' => e = .returned (RV 0 1 (b01 true) 0 ⟨#[]⟩ 0) ∧ Below w.heap.size w w' := by
  have ht := tm0 hv
  go_enter Try.func34, Try.ntmps34
  go_wp2_with fail
  refine (term_any _ _ _ _ _ _).mono ?_
  rintro e w101 ⟨rfl, hx⟩
  obtain ⟨hb, sl, c0, c1, c2, c3, c4⟩ := box5s hx
  clear hx
  clear c0 c1 c2 c3 c4
  go_wp2_with fail
  refine (tr_nil _).mono ?_
  rintro e w102 ⟨rfl, hx⟩
  replace hb := hb.trans (hx.mono hb.size)
  replace sl := Slot.later hx sl
  clear hx
  go_wp2_with fail
  refine (ig_bool _ _).mono ?_
  rintro e w103 ⟨rfl, hx⟩
  replace hb := hb.trans (hx.mono hb.size)
  replace sl := Slot.later hx sl
  clear hx
  obtain ⟨v0, v1, v2, v3, v4, v5, d0, d1, d2, d3, d4, d5, z, hz⟩ := sl.cells
  go_wp2_with fail
  exact bodyPost_ret (v := RV 0 1 (b01 true) 0 ⟨#[]⟩ 0) (by simp [results, Try.results34, go_sem, d0, d1, d2, d3, d4, d5]) rfl ⟨rfl, below6 hb (by omega) _ _ _ _ _ _⟩

set_option maxRecDepth 20000 in
set_option maxHeartbeats 400000 in
theorem iun21_1 (n : Int) (f : Nat) (s : ByteArray) (r : Int) (w : World) (hv : vok 1 n f s r = true) :
    Calls Try.prog 34 #[.int .i64 21, VV 1 n f s r] w fun e w' => e = .returned (RV 0 1 (b01 (!(n == 1))) 0 ⟨#[]⟩ 0) ∧ Below w.heap.size w w' := by
  have ht := tm1 hv
  go_enter Try.func34, Try.ntmps34
  go_wp2_with fail
  refine (term_any _ _ _ _ _ _).mono ?_
  rintro e w104 ⟨rfl, hx⟩
  obtain ⟨hb, sl, c0, c1, c2, c3, c4⟩ := box5s hx
  clear hx
  clear c0 c1 c2 c3 c4
  go_wp2_with fail
  refine (tr_bool _ _).mono ?_
  rintro e w105 ⟨rfl, hx⟩
  replace hb := hb.trans (hx.mono hb.size)
  replace sl := Slot.later hx sl
  clear hx
  go_wp2_with fail
  refine (ig_bool _ _).mono ?_
  rintro e w106 ⟨rfl, hx⟩
  replace hb := hb.trans (hx.mono hb.size)
  replace sl := Slot.later hx sl
  clear hx
  obtain ⟨v0, v1, v2, v3, v4, v5, d0, d1, d2, d3, d4, d5, z, hz⟩ := sl.cells
  go_wp2_with fail
  exact bodyPost_ret (v := RV 0 1 (b01 (!(n == 1))) 0 ⟨#[]⟩ 0) (by simp [results, Try.results34, go_sem, d0, d1, d2, d3, d4, d5]) rfl ⟨rfl, below6 hb (by omega) _ _ _ _ _ _⟩

set_option maxRecDepth 20000 in
set_option maxHeartbeats 400000 in
theorem iun21_2 (n : Int) (f : Nat) (s : ByteArray) (r : Int) (w : World) (hv : vok 2 n f s r = true) :
    Calls Try.prog 34 #[.int .i64 21, VV 2 n f s r] w fun e w' => e = .returned (RV 0 1 (b01 false) 0 ⟨#[]⟩ 0) ∧ Below w.heap.size w w' := by
  have ht := tm2 hv
  go_enter Try.func34, Try.ntmps34
  go_wp2_with fail
  refine (term_any _ _ _ _ _ _).mono ?_
  rintro e w107 ⟨rfl, hx⟩
  obtain ⟨hb, sl, c0, c1, c2, c3, c4⟩ := box5s hx
  clear hx
  clear c0 c1 c2 c3 c4
  go_wp2_with fail
  refine (tr_int _ _).mono ?_
  rintro e w108 ⟨rfl, hx⟩
  replace hb := hb.trans (hx.mono hb.size)
  replace sl := Slot.later hx sl
  clear hx
  go_wp2_with fail
  refine (ig_bool _ _).mono ?_
  rintro e w109 ⟨rfl, hx⟩
  replace hb := hb.trans (hx.mono hb.size)
  replace sl := Slot.later hx sl
  clear hx
  obtain ⟨v0, v1, v2, v3, v4, v5, d0, d1, d2, d3, d4, d5, z, hz⟩ := sl.cells
  go_wp2_with fail
  exact bodyPost_ret (v := RV 0 1 (b01 false) 0 ⟨#[]⟩ 0) (by simp [results, Try.results34, go_sem, d0, d1, d2, d3, d4, d5]) rfl ⟨rfl, below6 hb (by omega) _ _ _ _ _ _⟩

set_option maxRecDepth 20000 in
set_option maxHeartbeats 400000 in
theorem iun21_3 (n : Int) (f : Nat) (s : ByteArray) (r : Int) (w : World) (hv : vok 3 n f s r = true) :
    Calls Try.prog 34 #[.int .i64 21, VV 3 n f s r] w fun e w' => e = .returned (RV 0 1 (b01 false) 0 ⟨#[]⟩ 0) ∧ Below w.heap.size w w' := by
  have ht := tm3 hv
  go_enter Try.func34, Try.ntmps34
  go_wp2_with fail
  refine (term_any _ _ _ _ _ _).mono ?_
  rintro e w110 ⟨rfl, hx⟩
  obtain ⟨hb, sl, c0, c1, c2, c3, c4⟩ := box5s hx
  clear hx
  clear c0 c1 c2 c3 c4
  go_wp2_with fail
  refine (tr_flt _ _).mono ?_
  rintro e w111 ⟨rfl, hx⟩
  replace hb := hb.trans (hx.mono hb.size)
  replace sl := Slot.later hx sl
  clear hx
  go_wp2_with fail
  refine (ig_bool _ _).mono ?_
  rintro e w112 ⟨rfl, hx⟩
  replace hb := hb.trans (hx.mono hb.size)
  replace sl := Slot.later hx sl
  clear hx
  obtain ⟨v0, v1, v2, v3, v4, v5, d0, d1, d2, d3, d4, d5, z, hz⟩ := sl.cells
  go_wp2_with fail
  exact bodyPost_ret (v := RV 0 1 (b01 false) 0 ⟨#[]⟩ 0) (by simp [results, Try.results34, go_sem, d0, d1, d2, d3, d4, d5]) rfl ⟨rfl, below6 hb (by omega) _ _ _ _ _ _⟩

set_option maxRecDepth 20000 in
set_option maxHeartbeats 400000 in
theorem iun21_4 (n : Int) (f : Nat) (s : ByteArray) (r : Int) (w : World) (hv : vok 4 n f s r = true) :
    Calls Try.prog 34 #[.int .i64 21, VV 4 n f s r] w fun e w' => e = .returned (RV 0 1 (b01 false) 0 ⟨#[]⟩ 0) ∧ Below w.heap.size w w' := by
  have ht := tm4 hv
  go_enter Try.func34, Try.ntmps34
  go_wp2_with fail
  refine (term_any _ _ _ _ _ _).mono ?_
  rintro e w113 ⟨rfl, hx⟩
  obtain ⟨hb, sl, c0, c1, c2, c3, c4⟩ := box5s hx
  clear hx
  clear c0 c1 c2 c3 c4
  go_wp2_with fail
  refine (tr_str _ _).mono ?_
  rintro e w114 ⟨rfl, hx⟩
  replace hb := hb.trans (hx.mono hb.size)
  replace sl := Slot.later hx sl
  clear hx
  go_wp2_with fail
  refine (ig_bool _ _).mono ?_
  rintro e w115 ⟨rfl, hx⟩
  replace hb := hb.trans (hx.mono hb.size)
  replace sl := Slot.later hx sl
  clear hx
  obtain ⟨v0, v1, v2, v3, v4, v5, d0, d1, d2, d3, d4, d5, z, hz⟩ := sl.cells
  go_wp2_with fail
  exact bodyPost_ret (v := RV 0 1 (b01 false) 0 ⟨#[]⟩ 0) (by simp [results, Try.results34, go_sem, d0, d1, d2, d3, d4, d5]) rfl ⟨rfl, below6 hb (by omega) _ _ _ _ _ _⟩

set_option maxRecDepth 20000 in
set_option maxHeartbeats 400000 in
theorem iun21_5 (n : Int) (f : Nat) (s : ByteArray) (r : Int) (w : World) (hv : vok 5 n f s r = true) :
    Calls Try.prog 34 #[.int .i64 21, VV 5 n f s r] w fun e w' => e = .returned (RV 0 1 (b01 false) 0 ⟨#[]⟩ 0) ∧ Below w.heap.size w w' := by
  have ht := tm5 hv
  go_enter Try.func34, Try.ntmps34
  go_wp2_with fail
  refine (term_any _ _ _ _ _ _).mono ?_
  rintro e w116 ⟨rfl, hx⟩
  obtain ⟨hb, sl, c0, c1, c2, c3, c4⟩ := box5s hx
  clear hx
  clear c0 c1 c2 c3 c4
  go_wp2_with fail
  refine (tr_ref _ _ _).mono ?_
  rintro e w117 ⟨rfl, hx⟩
  replace hb := hb.trans (hx.mono hb.size)
  replace sl := Slot.later hx sl
  clear hx
  go_wp2_with fail
  refine (ig_bool _ _).mono ?_
  rintro e w118 ⟨rfl, hx⟩
  replace hb := hb.trans (hx.mono hb.size)
  replace sl := Slot.later hx sl
  clear hx
  obtain ⟨v0, v1, v2, v3, v4, v5, d0, d1, d2, d3, d4, d5, z, hz⟩ := sl.cells
  go_wp2_with fail
  exact bodyPost_ret (v := RV 0 1 (b01 false) 0 ⟨#[]⟩ 0) (by simp [results, Try.results34, go_sem, d0, d1, d2, d3, d4, d5]) rfl ⟨rfl, below6 hb (by omega) _ _ _ _ _ _⟩

set_option maxRecDepth 20000 in
set_option maxHeartbeats 400000 in
theorem iun21_6 (n : Int) (f : Nat) (s : ByteArray) (r : Int) (w : World) (hv : vok 6 n f s r = true) :
    Calls Try.prog 34 #[.int .i64 21, VV 6 n f s r] w fun e w' => e = .returned (RV 0 1 (b01 false) 0 ⟨#[]⟩ 0) ∧ Below w.heap.size w w' := by
  have ht := tm6 hv
  go_enter Try.func34, Try.ntmps34
  go_wp2_with fail
  refine (term_any _ _ _ _ _ _).mono ?_
  rintro e w119 ⟨rfl, hx⟩
  obtain ⟨hb, sl, c0, c1, c2, c3, c4⟩ := box5s hx
  clear hx
  clear c0 c1 c2 c3 c4
  go_wp2_with fail
  refine (tr_ref _ _ _).mono ?_
  rintro e w120 ⟨rfl, hx⟩
  replace hb := hb.trans (hx.mono hb.size)
  replace sl := Slot.later hx sl
  clear hx
  go_wp2_with fail
  refine (ig_bool _ _).mono ?_
  rintro e w121 ⟨rfl, hx⟩
  replace hb := hb.trans (hx.mono hb.size)
  replace sl := Slot.later hx sl
  clear hx
  obtain ⟨v0, v1, v2, v3, v4, v5, d0, d1, d2, d3, d4, d5, z, hz⟩ := sl.cells
  go_wp2_with fail
  exact bodyPost_ret (v := RV 0 1 (b01 false) 0 ⟨#[]⟩ 0) (by simp [results, Try.results34, go_sem, d0, d1, d2, d3, d4, d5]) rfl ⟨rfl, below6 hb (by omega) _ _ _ _ _ _⟩

set_option maxRecDepth 20000 in
set_option maxHeartbeats 400000 in
theorem iun21_7 (n : Int) (f : Nat) (s : ByteArray) (r : Int) (w : World) (hv : vok 7 n f s r = true) :
    Calls Try.prog 34 #[.int .i64 21, VV 7 n f s r] w fun e w' => e = .returned (RV 0 1 (b01 false) 0 ⟨#[]⟩ 0) ∧ Below w.heap.size w w' := by
  have ht := tm7 hv
  go_enter Try.func34, Try.ntmps34
  go_wp2_with fail
  refine (term_any _ _ _ _ _ _).mono ?_
  rintro e w122 ⟨rfl, hx⟩
  obtain ⟨hb, sl, c0, c1, c2, c3, c4⟩ := box5s hx
  clear hx
  clear c0 c1 c2 c3 c4
  go_wp2_with fail
  refine (tr_ref _ _ _).mono ?_
  rintro e w123 ⟨rfl, hx⟩
  replace hb := hb.trans (hx.mono hb.size)
  replace sl := Slot.later hx sl
  clear hx
  go_wp2_with fail
  refine (ig_bool _ _).mono ?_
  rintro e w124 ⟨rfl, hx⟩
  replace hb := hb.trans (hx.mono hb.size)
  replace sl := Slot.later hx sl
  clear hx
  obtain ⟨v0, v1, v2, v3, v4, v5, d0, d1, d2, d3, d4, d5, z, hz⟩ := sl.cells
  go_wp2_with fail
  exact bodyPost_ret (v := RV 0 1 (b01 false) 0 ⟨#[]⟩ 0) (by simp [results, Try.results34, go_sem, d0, d1, d2, d3, d4, d5]) rfl ⟨rfl, below6 hb (by omega) _ _ _ _ _ _⟩

set_option maxRecDepth 20000 in
set_option maxHeartbeats 400000 in
theorem iun21_8 (n : Int) (f : Nat) (s : ByteArray) (r : Int) (w : World) (hv : vok 8 n f s r = true) :
    Calls Try.prog 34 #[.int .i64 21, VV 8 n f s r] w fun e w' => e = .returned (RV 0 1 (b01 false) 0 ⟨#[]⟩ 0) ∧ Below w.heap.size w w' := by
  have ht := tm8 hv
  go_enter Try.func34, Try.ntmps34
  go_wp2_with fail
  refine (term_any _ _ _ _ _ _).mono ?_
  rintro e w125 ⟨rfl, hx⟩
  obtain ⟨hb, sl, c0, c1, c2, c3, c4⟩ := box5s hx
  clear hx
  clear c0 c1 c2 c3 c4
  go_wp2_with fail
  refine (tr_builtin _ _).mono ?_
  rintro e w126 ⟨rfl, hx⟩
  replace hb := hb.trans (hx.mono hb.size)
  replace sl := Slot.later hx sl
  clear hx
  go_wp2_with fail
  refine (ig_bool _ _).mono ?_
  rintro e w127 ⟨rfl, hx⟩
  replace hb := hb.trans (hx.mono hb.size)
  replace sl := Slot.later hx sl
  clear hx
  obtain ⟨v0, v1, v2, v3, v4, v5, d0, d1, d2, d3, d4, d5, z, hz⟩ := sl.cells
  go_wp2_with fail
  exact bodyPost_ret (v := RV 0 1 (b01 false) 0 ⟨#[]⟩ 0) (by simp [results, Try.results34, go_sem, d0, d1, d2, d3, d4, d5]) rfl ⟨rfl, below6 hb (by omega) _ _ _ _ _ _⟩
end Go.Proofs.Ytkipmogmejfmcaa
