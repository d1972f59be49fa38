/-
  OWN WORK. Which function a method of a term is: by the program's own tables.
-/
import Derived.Test.YticblodpacamkaaBase
namespace Go.Proofs.Yticblodpacamkaa

theorem m_nil_truth (d : Nat) (v : Value) (w : World) : (method (d + 1) 57 v "loop.example/punch/impl.truth").run Try.prog w = .ok (90, v) w := by kernel_rfl
theorem m_bool_truth (d : Nat) (v : Value) (w : World) : (method (d + 1) 69 v "loop.example/punch/impl.truth").run Try.prog w = .ok (119, v) w := by kernel_rfl
theorem m_int_truth (d : Nat) (v : Value) (w : World) : (method (d + 1) 63 v "loop.example/punch/impl.truth").run Try.prog w = .ok (115, v) w := by kernel_rfl
theorem m_flt_truth (d : Nat) (v : Value) (w : World) : (method (d + 1) 58 v "loop.example/punch/impl.truth").run Try.prog w = .ok (92, v) w := by kernel_rfl
theorem m_str_truth (d : Nat) (v : Value) (w : World) : (method (d + 1) 67 v "loop.example/punch/impl.truth").run Try.prog w = .ok (117, v) w := by kernel_rfl
theorem m_builtin_truth (d : Nat) (v : Value) (w : World) : (method (d + 1) 72 v "loop.example/punch/impl.truth").run Try.prog w = .ok (125, v) w := by kernel_rfl
theorem m_ref_truth (d : Nat) (v : Value) (w : World) : (method (d + 1) 71 v "loop.example/punch/impl.truth").run Try.prog w = .ok (123, v) w := by kernel_rfl
theorem m_nil_text (d : Nat) (v : Value) (w : World) : (method (d + 1) 57 v "loop.example/punch/impl.text").run Try.prog w = .ok (89, v) w := by kernel_rfl
theorem m_bool_text (d : Nat) (v : Value) (w : World) : (method (d + 1) 69 v "loop.example/punch/impl.text").run Try.prog w = .ok (118, v) w := by kernel_rfl
theorem m_int_text (d : Nat) (v : Value) (w : World) : (method (d + 1) 63 v "loop.example/punch/impl.text").run Try.prog w = .ok (114, v) w := by kernel_rfl
theorem m_flt_text (d : Nat) (v : Value) (w : World) : (method (d + 1) 58 v "loop.example/punch/impl.text").run Try.prog w = .ok (91, v) w := by kernel_rfl
theorem m_str_text (d : Nat) (v : Value) (w : World) : (method (d + 1) 67 v "loop.example/punch/impl.text").run Try.prog w = .ok (116, v) w := by kernel_rfl
theorem m_builtin_text (d : Nat) (v : Value) (w : World) : (method (d + 1) 72 v "loop.example/punch/impl.text").run Try.prog w = .ok (124, v) w := by kernel_rfl
theorem m_ref_text (d : Nat) (v : Value) (w : World) : (method (d + 1) 71 v "loop.example/punch/impl.text").run Try.prog w = .ok (122, v) w := by kernel_rfl
end Go.Proofs.Yticblodpacamkaa
