/-
  OWN WORK. What an assertion of a term's type answers: by the program's own tables.
-/
import Derived.Test.YtaifpcicaehgpaaBase
namespace Go.Proofs.Ytaifpcicaehgpaa

theorem ta_nil_str (v : Value) (w : World) : (Instr.typeAssert (.iface 77 v) 65 87 true).run Try.prog w = .ok (.tuple #[.string ⟨#[]⟩, .bool false]) w := by kernel_rfl
theorem ta_bool_str (v : Value) (w : World) : (Instr.typeAssert (.iface 108 v) 65 87 true).run Try.prog w = .ok (.tuple #[.string ⟨#[]⟩, .bool false]) w := by kernel_rfl
theorem ta_int_str (v : Value) (w : World) : (Instr.typeAssert (.iface 83 v) 65 87 true).run Try.prog w = .ok (.tuple #[.string ⟨#[]⟩, .bool false]) w := by kernel_rfl
theorem ta_flt_str (v : Value) (w : World) : (Instr.typeAssert (.iface 78 v) 65 87 true).run Try.prog w = .ok (.tuple #[.string ⟨#[]⟩, .bool false]) w := by kernel_rfl
theorem ta_str_str (v : Value) (w : World) : (Instr.typeAssert (.iface 87 v) 65 87 true).run Try.prog w = .ok (.tuple #[v, .bool true]) w := by kernel_rfl
theorem ta_builtin_str (v : Value) (w : World) : (Instr.typeAssert (.iface 111 v) 65 87 true).run Try.prog w = .ok (.tuple #[.string ⟨#[]⟩, .bool false]) w := by kernel_rfl
theorem ta_ref_str (v : Value) (w : World) : (Instr.typeAssert (.iface 110 v) 65 87 true).run Try.prog w = .ok (.tuple #[.string ⟨#[]⟩, .bool false]) w := by kernel_rfl
theorem ta_none_str (w : World) : (Instr.typeAssert .nilIface 65 87 true).run Try.prog w = .ok (.tuple #[.string ⟨#[]⟩, .bool false]) w := by kernel_rfl
theorem ta_nil_int (v : Value) (w : World) : (Instr.typeAssert (.iface 77 v) 65 83 true).run Try.prog w = .ok (.tuple #[.int .i64 0, .bool false]) w := by kernel_rfl
theorem ta_bool_int (v : Value) (w : World) : (Instr.typeAssert (.iface 108 v) 65 83 true).run Try.prog w = .ok (.tuple #[.int .i64 0, .bool false]) w := by kernel_rfl
theorem ta_int_int (v : Value) (w : World) : (Instr.typeAssert (.iface 83 v) 65 83 true).run Try.prog w = .ok (.tuple #[v, .bool true]) w := by kernel_rfl
theorem ta_flt_int (v : Value) (w : World) : (Instr.typeAssert (.iface 78 v) 65 83 true).run Try.prog w = .ok (.tuple #[.int .i64 0, .bool false]) w := by kernel_rfl
theorem ta_str_int (v : Value) (w : World) : (Instr.typeAssert (.iface 87 v) 65 83 true).run Try.prog w = .ok (.tuple #[.int .i64 0, .bool false]) w := by kernel_rfl
theorem ta_builtin_int (v : Value) (w : World) : (Instr.typeAssert (.iface 111 v) 65 83 true).run Try.prog w = .ok (.tuple #[.int .i64 0, .bool false]) w := by kernel_rfl
theorem ta_ref_int (v : Value) (w : World) : (Instr.typeAssert (.iface 110 v) 65 83 true).run Try.prog w = .ok (.tuple #[.int .i64 0, .bool false]) w := by kernel_rfl
theorem ta_none_int (w : World) : (Instr.typeAssert .nilIface 65 83 true).run Try.prog w = .ok (.tuple #[.int .i64 0, .bool false]) w := by kernel_rfl
theorem ta_nil_flt (v : Value) (w : World) : (Instr.typeAssert (.iface 77 v) 65 78 true).run Try.prog w = .ok (.tuple #[.float .f64 0, .bool false]) w := by kernel_rfl
theorem ta_bool_flt (v : Value) (w : World) : (Instr.typeAssert (.iface 108 v) 65 78 true).run Try.prog w = .ok (.tuple #[.float .f64 0, .bool false]) w := by kernel_rfl
theorem ta_int_flt (v : Value) (w : World) : (Instr.typeAssert (.iface 83 v) 65 78 true).run Try.prog w = .ok (.tuple #[.float .f64 0, .bool false]) w := by kernel_rfl
theorem ta_flt_flt (v : Value) (w : World) : (Instr.typeAssert (.iface 78 v) 65 78 true).run Try.prog w = .ok (.tuple #[v, .bool true]) w := by kernel_rfl
theorem ta_str_flt (v : Value) (w : World) : (Instr.typeAssert (.iface 87 v) 65 78 true).run Try.prog w = .ok (.tuple #[.float .f64 0, .bool false]) w := by kernel_rfl
theorem ta_builtin_flt (v : Value) (w : World) : (Instr.typeAssert (.iface 111 v) 65 78 true).run Try.prog w = .ok (.tuple #[.float .f64 0, .bool false]) w := by kernel_rfl
theorem ta_ref_flt (v : Value) (w : World) : (Instr.typeAssert (.iface 110 v) 65 78 true).run Try.prog w = .ok (.tuple #[.float .f64 0, .bool false]) w := by kernel_rfl
theorem ta_none_flt (w : World) : (Instr.typeAssert .nilIface 65 78 true).run Try.prog w = .ok (.tuple #[.float .f64 0, .bool false]) w := by kernel_rfl
theorem ta_nil_nil (v : Value) (w : World) : (Instr.typeAssert (.iface 77 v) 65 77 true).run Try.prog w = .ok (.tuple #[v, .bool true]) w := by kernel_rfl
theorem ta_bool_nil (v : Value) (w : World) : (Instr.typeAssert (.iface 108 v) 65 77 true).run Try.prog w = .ok (.tuple #[.agg #[], .bool false]) w := by kernel_rfl
theorem ta_int_nil (v : Value) (w : World) : (Instr.typeAssert (.iface 83 v) 65 77 true).run Try.prog w = .ok (.tuple #[.agg #[], .bool false]) w := by kernel_rfl
theorem ta_flt_nil (v : Value) (w : World) : (Instr.typeAssert (.iface 78 v) 65 77 true).run Try.prog w = .ok (.tuple #[.agg #[], .bool false]) w := by kernel_rfl
theorem ta_str_nil (v : Value) (w : World) : (Instr.typeAssert (.iface 87 v) 65 77 true).run Try.prog w = .ok (.tuple #[.agg #[], .bool false]) w := by kernel_rfl
theorem ta_builtin_nil (v : Value) (w : World) : (Instr.typeAssert (.iface 111 v) 65 77 true).run Try.prog w = .ok (.tuple #[.agg #[], .bool false]) w := by kernel_rfl
theorem ta_ref_nil (v : Value) (w : World) : (Instr.typeAssert (.iface 110 v) 65 77 true).run Try.prog w = .ok (.tuple #[.agg #[], .bool false]) w := by kernel_rfl
theorem ta_none_nil (w : World) : (Instr.typeAssert .nilIface 65 77 true).run Try.prog w = .ok (.tuple #[.agg #[], .bool false]) w := by kernel_rfl
end Go.Proofs.Ytaifpcicaehgpaa
