/-
  OWN WORK. Which function a method of a term is: by the program's own tables.
-/
import Derived.Test.YthfneoobflbmfaaBase
namespace Go.Proofs.Ythfneoobflbmfaa

theorem m_nil_truth (d : Nat) (v : Value) (w : World) : (method (d + 1) 48 v "loop.example/punch/impl.truth").run Try.prog w = .ok (70, v) w := by kernel_rfl
theorem m_bool_truth (d : Nat) (v : Value) (w : World) : (method (d + 1) 49 v "loop.example/punch/impl.truth").run Try.prog w = .ok (72, v) w := by kernel_rfl
theorem m_int_truth (d : Nat) (v : Value) (w : World) : (method (d + 1) 50 v "loop.example/punch/impl.truth").run Try.prog w = .ok (76, v) w := by kernel_rfl
theorem m_flt_truth (d : Nat) (v : Value) (w : World) : (method (d + 1) 51 v "loop.example/punch/impl.truth").run Try.prog w = .ok (91, v) w := by kernel_rfl
theorem m_str_truth (d : Nat) (v : Value) (w : World) : (method (d + 1) 52 v "loop.example/punch/impl.truth").run Try.prog w = .ok (101, v) w := by kernel_rfl
theorem m_builtin_truth (d : Nat) (v : Value) (w : World) : (method (d + 1) 55 v "loop.example/punch/impl.truth").run Try.prog w = .ok (105, v) w := by kernel_rfl
theorem m_ref_truth (d : Nat) (v : Value) (w : World) : (method (d + 1) 54 v "loop.example/punch/impl.truth").run Try.prog w = .ok (103, v) w := by kernel_rfl
theorem m_nil_text (d : Nat) (v : Value) (w : World) : (method (d + 1) 48 v "loop.example/punch/impl.text").run Try.prog w = .ok (69, v) w := by kernel_rfl
theorem m_bool_text (d : Nat) (v : Value) (w : World) : (method (d + 1) 49 v "loop.example/punch/impl.text").run Try.prog w = .ok (71, v) w := by kernel_rfl
theorem m_int_text (d : Nat) (v : Value) (w : World) : (method (d + 1) 50 v "loop.example/punch/impl.text").run Try.prog w = .ok (75, v) w := by kernel_rfl
theorem m_flt_text (d : Nat) (v : Value) (w : World) : (method (d + 1) 51 v "loop.example/punch/impl.text").run Try.prog w = .ok (90, v) w := by kernel_rfl
theorem m_str_text (d : Nat) (v : Value) (w : World) : (method (d + 1) 52 v "loop.example/punch/impl.text").run Try.prog w = .ok (100, v) w := by kernel_rfl
theorem m_builtin_text (d : Nat) (v : Value) (w : World) : (method (d + 1) 55 v "loop.example/punch/impl.text").run Try.prog w = .ok (104, v) w := by kernel_rfl
theorem m_ref_text (d : Nat) (v : Value) (w : World) : (method (d + 1) 54 v "loop.example/punch/impl.text").run Try.prog w = .ok (102, v) w := by kernel_rfl
end Go.Proofs.Ythfneoobflbmfaa
