/-
  OWN WORK. Two terms held for the same by the language's own ==.
-/
import Derived.Test.YtkipmogmejfmcaaCmp
import Derived.Test.YtkipmogmejfmcaaAssert
namespace Go.Proofs.Ytkipmogmejfmcaa
open Go.RowKit
set_option linter.unusedVariables false

theorem ie_nil_bool (v u : Value) (w : World) : (binOp .eql 74 (.iface 91 v) (.iface 122 u)).run Try.prog w = .ok (.bool false) w := by kernel_rfl
theorem ie_nil_int (v u : Value) (w : World) : (binOp .eql 74 (.iface 91 v) (.iface 97 u)).run Try.prog w = .ok (.bool false) w := by kernel_rfl
theorem ie_nil_flt (v u : Value) (w : World) : (binOp .eql 74 (.iface 91 v) (.iface 92 u)).run Try.prog w = .ok (.bool false) w := by kernel_rfl
theorem ie_nil_str (v u : Value) (w : World) : (binOp .eql 74 (.iface 91 v) (.iface 101 u)).run Try.prog w = .ok (.bool false) w := by kernel_rfl
theorem ie_nil_builtin (v u : Value) (w : World) : (binOp .eql 74 (.iface 91 v) (.iface 125 u)).run Try.prog w = .ok (.bool false) w := by kernel_rfl
theorem ie_nil_ref (v u : Value) (w : World) : (binOp .eql 74 (.iface 91 v) (.iface 124 u)).run Try.prog w = .ok (.bool false) w := by kernel_rfl
theorem ie_nil_none (v : Value) (w : World) : (binOp .eql 74 (.iface 91 v) .nilIface).run Try.prog w = .ok (.bool false) w := by kernel_rfl
theorem ie_bool_nil (v u : Value) (w : World) : (binOp .eql 74 (.iface 122 v) (.iface 91 u)).run Try.prog w = .ok (.bool false) w := by kernel_rfl
theorem ie_bool_int (v u : Value) (w : World) : (binOp .eql 74 (.iface 122 v) (.iface 97 u)).run Try.prog w = .ok (.bool false) w := by kernel_rfl
theorem ie_bool_flt (v u : Value) (w : World) : (binOp .eql 74 (.iface 122 v) (.iface 92 u)).run Try.prog w = .ok (.bool false) w := by kernel_rfl
theorem ie_bool_str (v u : Value) (w : World) : (binOp .eql 74 (.iface 122 v) (.iface 101 u)).run Try.prog w = .ok (.bool false) w := by kernel_rfl
theorem ie_bool_builtin (v u : Value) (w : World) : (binOp .eql 74 (.iface 122 v) (.iface 125 u)).run Try.prog w = .ok (.bool false) w := by kernel_rfl
theorem ie_bool_ref (v u : Value) (w : World) : (binOp .eql 74 (.iface 122 v) (.iface 124 u)).run Try.prog w = .ok (.bool false) w := by kernel_rfl
theorem ie_bool_none (v : Value) (w : World) : (binOp .eql 74 (.iface 122 v) .nilIface).run Try.prog w = .ok (.bool false) w := by kernel_rfl
theorem ie_int_nil (v u : Value) (w : World) : (binOp .eql 74 (.iface 97 v) (.iface 91 u)).run Try.prog w = .ok (.bool false) w := by kernel_rfl
theorem ie_int_bool (v u : Value) (w : World) : (binOp .eql 74 (.iface 97 v) (.iface 122 u)).run Try.prog w = .ok (.bool false) w := by kernel_rfl
theorem ie_int_flt (v u : Value) (w : World) : (binOp .eql 74 (.iface 97 v) (.iface 92 u)).run Try.prog w = .ok (.bool false) w := by kernel_rfl
theorem ie_int_str (v u : Value) (w : World) : (binOp .eql 74 (.iface 97 v) (.iface 101 u)).run Try.prog w = .ok (.bool false) w := by kernel_rfl
theorem ie_int_builtin (v u : Value) (w : World) : (binOp .eql 74 (.iface 97 v) (.iface 125 u)).run Try.prog w = .ok (.bool false) w := by kernel_rfl
theorem ie_int_ref (v u : Value) (w : World) : (binOp .eql 74 (.iface 97 v) (.iface 124 u)).run Try.prog w = .ok (.bool false) w := by kernel_rfl
theorem ie_int_none (v : Value) (w : World) : (binOp .eql 74 (.iface 97 v) .nilIface).run Try.prog w = .ok (.bool false) w := by kernel_rfl
theorem ie_flt_nil (v u : Value) (w : World) : (binOp .eql 74 (.iface 92 v) (.iface 91 u)).run Try.prog w = .ok (.bool false) w := by kernel_rfl
theorem ie_flt_bool (v u : Value) (w : World) : (binOp .eql 74 (.iface 92 v) (.iface 122 u)).run Try.prog w = .ok (.bool false) w := by kernel_rfl
theorem ie_flt_int (v u : Value) (w : World) : (binOp .eql 74 (.iface 92 v) (.iface 97 u)).run Try.prog w = .ok (.bool false) w := by kernel_rfl
theorem ie_flt_str (v u : Value) (w : World) : (binOp .eql 74 (.iface 92 v) (.iface 101 u)).run Try.prog w = .ok (.bool false) w := by kernel_rfl
theorem ie_flt_builtin (v u : Value) (w : World) : (binOp .eql 74 (.iface 92 v) (.iface 125 u)).run Try.prog w = .ok (.bool false) w := by kernel_rfl
theorem ie_flt_ref (v u : Value) (w : World) : (binOp .eql 74 (.iface 92 v) (.iface 124 u)).run Try.prog w = .ok (.bool false) w := by kernel_rfl
theorem ie_flt_none (v : Value) (w : World) : (binOp .eql 74 (.iface 92 v) .nilIface).run Try.prog w = .ok (.bool false) w := by kernel_rfl
theorem ie_str_nil (v u : Value) (w : World) : (binOp .eql 74 (.iface 101 v) (.iface 91 u)).run Try.prog w = .ok (.bool false) w := by kernel_rfl
theorem ie_str_bool (v u : Value) (w : World) : (binOp .eql 74 (.iface 101 v) (.iface 122 u)).run Try.prog w = .ok (.bool false) w := by kernel_rfl
theorem ie_str_int (v u : Value) (w : World) : (binOp .eql 74 (.iface 101 v) (.iface 97 u)).run Try.prog w = .ok (.bool false) w := by kernel_rfl
theorem ie_str_flt (v u : Value) (w : World) : (binOp .eql 74 (.iface 101 v) (.iface 92 u)).run Try.prog w = .ok (.bool false) w := by kernel_rfl
theorem ie_str_builtin (v u : Value) (w : World) : (binOp .eql 74 (.iface 101 v) (.iface 125 u)).run Try.prog w = .ok (.bool false) w := by kernel_rfl
theorem ie_str_ref (v u : Value) (w : World) : (binOp .eql 74 (.iface 101 v) (.iface 124 u)).run Try.prog w = .ok (.bool false) w := by kernel_rfl
theorem ie_str_none (v : Value) (w : World) : (binOp .eql 74 (.iface 101 v) .nilIface).run Try.prog w = .ok (.bool false) w := by kernel_rfl
theorem ie_builtin_nil (v u : Value) (w : World) : (binOp .eql 74 (.iface 125 v) (.iface 91 u)).run Try.prog w = .ok (.bool false) w := by kernel_rfl
theorem ie_builtin_bool (v u : Value) (w : World) : (binOp .eql 74 (.iface 125 v) (.iface 122 u)).run Try.prog w = .ok (.bool false) w := by kernel_rfl
theorem ie_builtin_int (v u : Value) (w : World) : (binOp .eql 74 (.iface 125 v) (.iface 97 u)).run Try.prog w = .ok (.bool false) w := by kernel_rfl
theorem ie_builtin_flt (v u : Value) (w : World) : (binOp .eql 74 (.iface 125 v) (.iface 92 u)).run Try.prog w = .ok (.bool false) w := by kernel_rfl
theorem ie_builtin_str (v u : Value) (w : World) : (binOp .eql 74 (.iface 125 v) (.iface 101 u)).run Try.prog w = .ok (.bool false) w := by kernel_rfl
theorem ie_builtin_ref (v u : Value) (w : World) : (binOp .eql 74 (.iface 125 v) (.iface 124 u)).run Try.prog w = .ok (.bool false) w := by kernel_rfl
theorem ie_builtin_none (v : Value) (w : World) : (binOp .eql 74 (.iface 125 v) .nilIface).run Try.prog w = .ok (.bool false) w := by kernel_rfl
theorem ie_ref_nil (v u : Value) (w : World) : (binOp .eql 74 (.iface 124 v) (.iface 91 u)).run Try.prog w = .ok (.bool false) w := by kernel_rfl
theorem ie_ref_bool (v u : Value) (w : World) : (binOp .eql 74 (.iface 124 v) (.iface 122 u)).run Try.prog w = .ok (.bool false) w := by kernel_rfl
theorem ie_ref_int (v u : Value) (w : World) : (binOp .eql 74 (.iface 124 v) (.iface 97 u)).run Try.prog w = .ok (.bool false) w := by kernel_rfl
theorem ie_ref_flt (v u : Value) (w : World) : (binOp .eql 74 (.iface 124 v) (.iface 92 u)).run Try.prog w = .ok (.bool false) w := by kernel_rfl
theorem ie_ref_str (v u : Value) (w : World) : (binOp .eql 74 (.iface 124 v) (.iface 101 u)).run Try.prog w = .ok (.bool false) w := by kernel_rfl
theorem ie_ref_builtin (v u : Value) (w : World) : (binOp .eql 74 (.iface 124 v) (.iface 125 u)).run Try.prog w = .ok (.bool false) w := by kernel_rfl
theorem ie_ref_none (v : Value) (w : World) : (binOp .eql 74 (.iface 124 v) .nilIface).run Try.prog w = .ok (.bool false) w := by kernel_rfl
theorem ie_nil_nil (w : World) : (binOp .eql 74 (.iface 91 (.agg #[])) (.iface 91 (.agg #[]))).run Try.prog w = .ok (.bool true) w := by kernel_rfl
theorem ie_bool_bool (a b : Bool) (w : World) : (binOp .eql 74 (.iface 122 (.bool a)) (.iface 122 (.bool b))).run Try.prog w = .ok (.bool (a == b)) w := by cases a <;> cases b <;> kernel_rfl
theorem ie_builtin_builtin (a b : Int) (w : World) : (binOp .eql 74 (.iface 125 (.int .i64 a)) (.iface 125 (.int .i64 b))).run Try.prog w = .ok (.bool (a == b)) w := by kernel_rfl
theorem run_equalIn_step {P : Program} (w : World) (d : Nat) {ti tn : TypeId} {ms : Array (String × TypeId)} (x y : Value) (hi : P.underlying ti = some (.interface ms)) (hc : (P.info? tn).map (·.comparable) = some true) :
    (Op.equalIn (d + 1) ti (.iface tn x) (.iface tn y)).run P w = (Op.equalIn d tn x y).run P w := by
  cases hq : P.info? tn with
  | none => rw [hq] at hc; cases hc
  | some i =>
    rw [hq] at hc
    have hcomp : i.comparable = true := by simpa using hc
    rw [Op.equalIn]
    simp [run_underlying hi, typeInfo, hq, hcomp]
theorem ie_ref_step (x y : Value) (w : World) : (binOp .eql 74 (.iface 124 x) (.iface 124 y)).run Try.prog w = ((Op.equalIn 9999 124 x y).run Try.prog w).andThen (fun b w' => .ok (.bool b) w') := by
  have h := run_equalIn_step (P := Try.prog) w 9999 (tn := 124) x y Try.underlying74 (by kernel_rfl)
  simp only [binOp]
  simp [Op.equal, Op.maxDepth, h]
set_option maxRecDepth 20000 in
theorem ie_ref_ref (a b c d : Int) (w : World) : (binOp .eql 74 (.iface 124 (.agg #[.int .i64 a, .int .i64 b])) (.iface 124 (.agg #[.int .i64 c, .int .i64 d]))).run Try.prog w = .ok (.bool (a == c && b == d)) w := by
  rw [ie_ref_step]
  by_cases h1 : a = c
  · subst h1
    by_cases h2 : b = d
    · subst h2; go_simp
    · have h2' : (b == d) = false := by simpa using h2
      go_simp
  · have h1' : (a == c) = false := by simpa using h1
    go_simp

set_option maxRecDepth 20000 in
set_option maxHeartbeats 400000 in
theorem st_3 (t : TypeId) (v y : Value) (w : World) (b : Bool) (hk : ∀ w : World, Calls Try.prog 63 #[.iface t v, y] w fun e w' => e = .returned (.int .i64 3) ∧ w' = w) (he : ∀ w : World, (binOp .eql 74 (.iface t v) y).run Try.prog w = .ok (.bool b) w) :
    Calls Try.prog 64 #[.iface t v, y] w fun e w' => e = .returned (.bool b) ∧ w' = w := by
  have hK : Hid (∀ w : World, Calls Try.prog 63 #[.iface t v, y] w fun e w' => e = .returned (.int .i64 3) ∧ w' = w) := hk
  clear hk
  go_enter Try.func64, Try.ntmps64
  go_wp2_with fail
  refine (hK.out _).mono ?_
  rintro e w1 ⟨rfl, rfl⟩
  go_wp2_with fail
  go_ret
  exact ⟨rfl, rfl⟩

set_option maxRecDepth 20000 in
set_option maxHeartbeats 400000 in
theorem st_none (y : Value) (w : World) (hk : ∀ w : World, Calls Try.prog 63 #[.nilIface, y] w fun e w' => e = .returned (.int .i64 3) ∧ w' = w) :
    Calls Try.prog 64 #[.nilIface, y] w fun e w' => e = .returned (.bool false) ∧ w' = w := by
  have hK : Hid (∀ w : World, Calls Try.prog 63 #[.nilIface, y] w fun e w' => e = .returned (.int .i64 3) ∧ w' = w) := hk
  clear hk
  go_enter Try.func64, Try.ntmps64
  go_wp2_with fail
  refine (hK.out _).mono ?_
  rintro e w1 ⟨rfl, rfl⟩
  go_wp2_with fail
  go_ret
  exact ⟨rfl, rfl⟩

set_option maxRecDepth 20000 in
set_option maxHeartbeats 400000 in
theorem st_c (x y : Value) (w : World) (c : Int) (hc : (c == 3) = false) (hk : ∀ w : World, Calls Try.prog 63 #[x, y] w fun e w' => e = .returned (.int .i64 c) ∧ w' = w) :
    Calls Try.prog 64 #[x, y] w fun e w' => e = .returned (.bool (c == 0)) ∧ w' = w := by
  have hK : Hid (∀ w : World, Calls Try.prog 63 #[x, y] w fun e w' => e = .returned (.int .i64 c) ∧ w' = w) := hk
  clear hk
  go_enter Try.func64, Try.ntmps64
  go_wp2_with fail
  refine (hK.out _).mono ?_
  rintro e w1 ⟨rfl, rfl⟩
  go_wp2_with fail
  go_ret
  exact ⟨rfl, rfl⟩
end Go.Proofs.Ytkipmogmejfmcaa
