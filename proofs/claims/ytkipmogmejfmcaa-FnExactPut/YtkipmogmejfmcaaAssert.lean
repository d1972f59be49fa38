/-
  OWN WORK. What an assertion of a term's type answers: by the program's own tables.
-/
import Derived.Test.YtkipmogmejfmcaaBase
namespace Go.Proofs.Ytkipmogmejfmcaa

theorem ta_nil_str (v : Value) (w : World) : (Instr.typeAssert (.iface 91 v) 74 101 true).run Try.prog w = .ok (.tuple #[.string ⟨#[]⟩, .bool false]) w := by kernel_rfl
theorem ta_bool_str (v : Value) (w : World) : (Instr.typeAssert (.iface 122 v) 74 101 true).run Try.prog w = .ok (.tuple #[.string ⟨#[]⟩, .bool false]) w := by kernel_rfl
theorem ta_int_str (v : Value) (w : World) : (Instr.typeAssert (.iface 97 v) 74 101 true).run Try.prog w = .ok (.tuple #[.string ⟨#[]⟩, .bool false]) w := by kernel_rfl
theorem ta_flt_str (v : Value) (w : World) : (Instr.typeAssert (.iface 92 v) 74 101 true).run Try.prog w = .ok (.tuple #[.string ⟨#[]⟩, .bool false]) w := by kernel_rfl
theorem ta_str_str (v : Value) (w : World) : (Instr.typeAssert (.iface 101 v) 74 101 true).run Try.prog w = .ok (.tuple #[v, .bool true]) w := by kernel_rfl
theorem ta_builtin_str (v : Value) (w : World) : (Instr.typeAssert (.iface 125 v) 74 101 true).run Try.prog w = .ok (.tuple #[.string ⟨#[]⟩, .bool false]) w := by kernel_rfl
theorem ta_ref_str (v : Value) (w : World) : (Instr.typeAssert (.iface 124 v) 74 101 true).run Try.prog w = .ok (.tuple #[.string ⟨#[]⟩, .bool false]) w := by kernel_rfl
theorem ta_none_str (w : World) : (Instr.typeAssert .nilIface 74 101 true).run Try.prog w = .ok (.tuple #[.string ⟨#[]⟩, .bool false]) w := by kernel_rfl
theorem ta_nil_int (v : Value) (w : World) : (Instr.typeAssert (.iface 91 v) 74 97 true).run Try.prog w = .ok (.tuple #[.int .i64 0, .bool false]) w := by kernel_rfl
theorem ta_bool_int (v : Value) (w : World) : (Instr.typeAssert (.iface 122 v) 74 97 true).run Try.prog w = .ok (.tuple #[.int .i64 0, .bool false]) w := by kernel_rfl
theorem ta_int_int (v : Value) (w : World) : (Instr.typeAssert (.iface 97 v) 74 97 true).run Try.prog w = .ok (.tuple #[v, .bool true]) w := by kernel_rfl
theorem ta_flt_int (v : Value) (w : World) : (Instr.typeAssert (.iface 92 v) 74 97 true).run Try.prog w = .ok (.tuple #[.int .i64 0, .bool false]) w := by kernel_rfl
theorem ta_str_int (v : Value) (w : World) : (Instr.typeAssert (.iface 101 v) 74 97 true).run Try.prog w = .ok (.tuple #[.int .i64 0, .bool false]) w := by kernel_rfl
theorem ta_builtin_int (v : Value) (w : World) : (Instr.typeAssert (.iface 125 v) 74 97 true).run Try.prog w = .ok (.tuple #[.int .i64 0, .bool false]) w := by kernel_rfl
theorem ta_ref_int (v : Value) (w : World) : (Instr.typeAssert (.iface 124 v) 74 97 true).run Try.prog w = .ok (.tuple #[.int .i64 0, .bool false]) w := by kernel_rfl
theorem ta_none_int (w : World) : (Instr.typeAssert .nilIface 74 97 true).run Try.prog w = .ok (.tuple #[.int .i64 0, .bool false]) w := by kernel_rfl
theorem ta_nil_flt (v : Value) (w : World) : (Instr.typeAssert (.iface 91 v) 74 92 true).run Try.prog w = .ok (.tuple #[.float .f64 0, .bool false]) w := by kernel_rfl
theorem ta_bool_flt (v : Value) (w : World) : (Instr.typeAssert (.iface 122 v) 74 92 true).run Try.prog w = .ok (.tuple #[.float .f64 0, .bool false]) w := by kernel_rfl
theorem ta_int_flt (v : Value) (w : World) : (Instr.typeAssert (.iface 97 v) 74 92 true).run Try.prog w = .ok (.tuple #[.float .f64 0, .bool false]) w := by kernel_rfl
theorem ta_flt_flt (v : Value) (w : World) : (Instr.typeAssert (.iface 92 v) 74 92 true).run Try.prog w = .ok (.tuple #[v, .bool true]) w := by kernel_rfl
theorem ta_str_flt (v : Value) (w : World) : (Instr.typeAssert (.iface 101 v) 74 92 true).run Try.prog w = .ok (.tuple #[.float .f64 0, .bool false]) w := by kernel_rfl
theorem ta_builtin_flt (v : Value) (w : World) : (Instr.typeAssert (.iface 125 v) 74 92 true).run Try.prog w = .ok (.tuple #[.float .f64 0, .bool false]) w := by kernel_rfl
theorem ta_ref_flt (v : Value) (w : World) : (Instr.typeAssert (.iface 124 v) 74 92 true).run Try.prog w = .ok (.tuple #[.float .f64 0, .bool false]) w := by kernel_rfl
theorem ta_none_flt (w : World) : (Instr.typeAssert .nilIface 74 92 true).run Try.prog w = .ok (.tuple #[.float .f64 0, .bool false]) w := by kernel_rfl
theorem ta_nil_nil (v : Value) (w : World) : (Instr.typeAssert (.iface 91 v) 74 91 true).run Try.prog w = .ok (.tuple #[v, .bool true]) w := by kernel_rfl
theorem ta_bool_nil (v : Value) (w : World) : (Instr.typeAssert (.iface 122 v) 74 91 true).run Try.prog w = .ok (.tuple #[.agg #[], .bool false]) w := by kernel_rfl
theorem ta_int_nil (v : Value) (w : World) : (Instr.typeAssert (.iface 97 v) 74 91 true).run Try.prog w = .ok (.tuple #[.agg #[], .bool false]) w := by kernel_rfl
theorem ta_flt_nil (v : Value) (w : World) : (Instr.typeAssert (.iface 92 v) 74 91 true).run Try.prog w = .ok (.tuple #[.agg #[], .bool false]) w := by kernel_rfl
theorem ta_str_nil (v : Value) (w : World) : (Instr.typeAssert (.iface 101 v) 74 91 true).run Try.prog w = .ok (.tuple #[.agg #[], .bool false]) w := by kernel_rfl
theorem ta_builtin_nil (v : Value) (w : World) : (Instr.typeAssert (.iface 125 v) 74 91 true).run Try.prog w = .ok (.tuple #[.agg #[], .bool false]) w := by kernel_rfl
theorem ta_ref_nil (v : Value) (w : World) : (Instr.typeAssert (.iface 124 v) 74 91 true).run Try.prog w = .ok (.tuple #[.agg #[], .bool false]) w := by kernel_rfl
theorem ta_none_nil (w : World) : (Instr.typeAssert .nilIface 74 91 true).run Try.prog w = .ok (.tuple #[.agg #[], .bool false]) w := by kernel_rfl
end Go.Proofs.Ytkipmogmejfmcaa
