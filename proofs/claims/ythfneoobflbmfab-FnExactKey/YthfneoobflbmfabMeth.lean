/-
  OWN WORK. Which function a method of a term is: by the program's own tables.
-/
import Derived.Test.YthfneoobflbmfabBase
namespace Go.Proofs.Ythfneoobflbmfab

theorem m_nil_truth (d : Nat) (v : Value) (w : World) : (method (d + 1) 65 v "loop.example/punch/impl.truth").run Try.prog w = .ok (91, v) w := by kernel_rfl
theorem m_bool_truth (d : Nat) (v : Value) (w : World) : (method (d + 1) 85 v "loop.example/punch/impl.truth").run Try.prog w = .ok (99, v) w := by kernel_rfl
theorem m_int_truth (d : Nat) (v : Value) (w : World) : (method (d + 1) 71 v "loop.example/punch/impl.truth").run Try.prog w = .ok (95, v) w := by kernel_rfl
theorem m_flt_truth (d : Nat) (v : Value) (w : World) : (method (d + 1) 66 v "loop.example/punch/impl.truth").run Try.prog w = .ok (93, v) w := by kernel_rfl
theorem m_str_truth (d : Nat) (v : Value) (w : World) : (method (d + 1) 76 v "loop.example/punch/impl.truth").run Try.prog w = .ok (97, v) w := by kernel_rfl
theorem m_builtin_truth (d : Nat) (v : Value) (w : World) : (method (d + 1) 88 v "loop.example/punch/impl.truth").run Try.prog w = .ok (103, v) w := by kernel_rfl
theorem m_ref_truth (d : Nat) (v : Value) (w : World) : (method (d + 1) 87 v "loop.example/punch/impl.truth").run Try.prog w = .ok (101, v) w := by kernel_rfl
theorem m_nil_text (d : Nat) (v : Value) (w : World) : (method (d + 1) 65 v "loop.example/punch/impl.text").run Try.prog w = .ok (90, v) w := by kernel_rfl
theorem m_bool_text (d : Nat) (v : Value) (w : World) : (method (d + 1) 85 v "loop.example/punch/impl.text").run Try.prog w = .ok (98, v) w := by kernel_rfl
theorem m_int_text (d : Nat) (v : Value) (w : World) : (method (d + 1) 71 v "loop.example/punch/impl.text").run Try.prog w = .ok (94, v) w := by kernel_rfl
theorem m_flt_text (d : Nat) (v : Value) (w : World) : (method (d + 1) 66 v "loop.example/punch/impl.text").run Try.prog w = .ok (92, v) w := by kernel_rfl
theorem m_str_text (d : Nat) (v : Value) (w : World) : (method (d + 1) 76 v "loop.example/punch/impl.text").run Try.prog w = .ok (96, v) w := by kernel_rfl
theorem m_builtin_text (d : Nat) (v : Value) (w : World) : (method (d + 1) 88 v "loop.example/punch/impl.text").run Try.prog w = .ok (102, v) w := by kernel_rfl
theorem m_ref_text (d : Nat) (v : Value) (w : World) : (method (d + 1) 87 v "loop.example/punch/impl.text").run Try.prog w = .ok (100, v) w := by kernel_rfl
end Go.Proofs.Ythfneoobflbmfab
