/-
  OWN WORK. Which function a method of a term is: by the program's own tables.
-/
import Derived.Test.YtaifpcicaehgpaaBase
namespace Go.Proofs.Ytaifpcicaehgpaa

theorem m_nil_truth (d : Nat) (v : Value) (w : World) : (method (d + 1) 77 v "loop.example/punch/impl.truth").run Try.prog w = .ok (137, v) w := by kernel_rfl
theorem m_bool_truth (d : Nat) (v : Value) (w : World) : (method (d + 1) 108 v "loop.example/punch/impl.truth").run Try.prog w = .ok (145, v) w := by kernel_rfl
theorem m_int_truth (d : Nat) (v : Value) (w : World) : (method (d + 1) 83 v "loop.example/punch/impl.truth").run Try.prog w = .ok (141, v) w := by kernel_rfl
theorem m_flt_truth (d : Nat) (v : Value) (w : World) : (method (d + 1) 78 v "loop.example/punch/impl.truth").run Try.prog w = .ok (139, v) w := by kernel_rfl
theorem m_str_truth (d : Nat) (v : Value) (w : World) : (method (d + 1) 87 v "loop.example/punch/impl.truth").run Try.prog w = .ok (143, v) w := by kernel_rfl
theorem m_builtin_truth (d : Nat) (v : Value) (w : World) : (method (d + 1) 111 v "loop.example/punch/impl.truth").run Try.prog w = .ok (149, v) w := by kernel_rfl
theorem m_ref_truth (d : Nat) (v : Value) (w : World) : (method (d + 1) 110 v "loop.example/punch/impl.truth").run Try.prog w = .ok (147, v) w := by kernel_rfl
theorem m_nil_text (d : Nat) (v : Value) (w : World) : (method (d + 1) 77 v "loop.example/punch/impl.text").run Try.prog w = .ok (136, v) w := by kernel_rfl
theorem m_bool_text (d : Nat) (v : Value) (w : World) : (method (d + 1) 108 v "loop.example/punch/impl.text").run Try.prog w = .ok (144, v) w := by kernel_rfl
theorem m_int_text (d : Nat) (v : Value) (w : World) : (method (d + 1) 83 v "loop.example/punch/impl.text").run Try.prog w = .ok (140, v) w := by kernel_rfl
theorem m_flt_text (d : Nat) (v : Value) (w : World) : (method (d + 1) 78 v "loop.example/punch/impl.text").run Try.prog w = .ok (138, v) w := by kernel_rfl
theorem m_str_text (d : Nat) (v : Value) (w : World) : (method (d + 1) 87 v "loop.example/punch/impl.text").run Try.prog w = .ok (142, v) w := by kernel_rfl
theorem m_builtin_text (d : Nat) (v : Value) (w : World) : (method (d + 1) 111 v "loop.example/punch/impl.text").run Try.prog w = .ok (148, v) w := by kernel_rfl
theorem m_ref_text (d : Nat) (v : Value) (w : World) : (method (d + 1) 110 v "loop.example/punch/impl.text").run Try.prog w = .ok (146, v) w := by kernel_rfl
end Go.Proofs.Ytaifpcicaehgpaa
