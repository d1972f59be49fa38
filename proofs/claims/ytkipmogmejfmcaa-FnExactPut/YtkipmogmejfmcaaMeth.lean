/-
  OWN WORK. Which function a method of a term is: by the program's own tables.
-/
import Derived.Test.YtkipmogmejfmcaaBase
namespace Go.Proofs.Ytkipmogmejfmcaa

theorem m_nil_truth (d : Nat) (v : Value) (w : World) : (method (d + 1) 91 v "loop.example/punch/impl.truth").run Try.prog w = .ok (151, v) w := by kernel_rfl
theorem m_bool_truth (d : Nat) (v : Value) (w : World) : (method (d + 1) 122 v "loop.example/punch/impl.truth").run Try.prog w = .ok (159, v) w := by kernel_rfl
theorem m_int_truth (d : Nat) (v : Value) (w : World) : (method (d + 1) 97 v "loop.example/punch/impl.truth").run Try.prog w = .ok (155, v) w := by kernel_rfl
theorem m_flt_truth (d : Nat) (v : Value) (w : World) : (method (d + 1) 92 v "loop.example/punch/impl.truth").run Try.prog w = .ok (153, v) w := by kernel_rfl
theorem m_str_truth (d : Nat) (v : Value) (w : World) : (method (d + 1) 101 v "loop.example/punch/impl.truth").run Try.prog w = .ok (157, v) w := by kernel_rfl
theorem m_builtin_truth (d : Nat) (v : Value) (w : World) : (method (d + 1) 125 v "loop.example/punch/impl.truth").run Try.prog w = .ok (163, v) w := by kernel_rfl
theorem m_ref_truth (d : Nat) (v : Value) (w : World) : (method (d + 1) 124 v "loop.example/punch/impl.truth").run Try.prog w = .ok (161, v) w := by kernel_rfl
theorem m_nil_text (d : Nat) (v : Value) (w : World) : (method (d + 1) 91 v "loop.example/punch/impl.text").run Try.prog w = .ok (150, v) w := by kernel_rfl
theorem m_bool_text (d : Nat) (v : Value) (w : World) : (method (d + 1) 122 v "loop.example/punch/impl.text").run Try.prog w = .ok (158, v) w := by kernel_rfl
theorem m_int_text (d : Nat) (v : Value) (w : World) : (method (d + 1) 97 v "loop.example/punch/impl.text").run Try.prog w = .ok (154, v) w := by kernel_rfl
theorem m_flt_text (d : Nat) (v : Value) (w : World) : (method (d + 1) 92 v "loop.example/punch/impl.text").run Try.prog w = .ok (152, v) w := by kernel_rfl
theorem m_str_text (d : Nat) (v : Value) (w : World) : (method (d + 1) 101 v "loop.example/punch/impl.text").run Try.prog w = .ok (156, v) w := by kernel_rfl
theorem m_builtin_text (d : Nat) (v : Value) (w : World) : (method (d + 1) 125 v "loop.example/punch/impl.text").run Try.prog w = .ok (162, v) w := by kernel_rfl
theorem m_ref_text (d : Nat) (v : Value) (w : World) : (method (d + 1) 124 v "loop.example/punch/impl.text").run Try.prog w = .ok (160, v) w := by kernel_rfl
end Go.Proofs.Ytkipmogmejfmcaa
