/-
  OWN WORK. errors.As at the program's own error: none; a fault.
-/
import Derived.Test.YtmicnjphlakoaaaGreatDoorCImH
import Derived.LaidEql
import Derived.Stop.Asserts
import Derived.RowKitTokens
namespace Go.Proofs.YtmicnjphlakoaaaGreatDoor
open Go.RowKit Go.Extern.Stop Go.Stop Go.Extern
set_option linter.unusedVariables false
set_option linter.unusedSimpArgs false

theorem as_nil (t : Value) (w : World) :
    Calls Tryz.prog 25 #[.nilIface, t] w fun e w' => e = .returned (.bool false) ∧ w' = w := by
  go_enter Tryz.func25, Tryz.ntmps25
  go_wp2
  go_ret
  exact ⟨rfl, rfl⟩

theorem As.valueOfP (t : Addr) (w : World) : (ReflectliteValue.unpack (.iface 74 (.pointer (some t)))).run Tryz.prog w
    = .ok (.agg #[.pointer (some ⟨3, 74, none⟩), .pointer (some ⟨w.heap.size, 0, none⟩), .int .u64 150]) (w.alloc (.cells #[.pointer (some t)] 74)) := by kernel_rfl
theorem As.typeP (a : Addr) (w : World) : (ReflectliteValue.methodAny (ReflectliteValue.valueError "reflectlite.Value.Type" 0) (fun t _ _ _ => ReflectliteType.toType t) #[.agg #[.pointer (some ⟨3, 74, none⟩), .pointer (some a), .int .u64 150]]).run Tryz.prog w
    = .ok (.iface 128 (.agg #[.pointer (some ⟨3, 74, none⟩)])) w := by kernel_rfl
theorem As.methodKind (d : Nat) (h : Value) (w : World) : (Go.method (d + 2) 128 (.agg #[h]) "Kind").run Tryz.prog w = .ok (98, h) w := by kernel_rfl
theorem As.kindP (w : World) : ((ReflectliteType.abiMethod fun t => Functor.map (fun a : Nat => Value.int IntKind.u8 (a : Int)) (Rtype.kind t)) #[.pointer (some ⟨3, 74, none⟩)]).run Tryz.prog w = .ok (.int .u8 22) w := by kernel_rfl
theorem As.kindT (w : World) : ((ReflectliteType.abiMethod fun t => Functor.map (fun a : Nat => Value.int IntKind.u8 (a : Int)) (Rtype.kind t)) #[.pointer (some ⟨3, 72, none⟩)]).run Tryz.prog w = .ok (.int .u8 25) w := by kernel_rfl

theorem rlm (z : Sem Value) (f : TypeId → Addr → Nat → Nat → Sem Value) (v : Value) :
    ReflectliteValue.method z f #[v] = (do match ← ReflectliteValue.parts v with | none => z | some (t, a, fl) => f t a fl (fl % 32)) := rfl
theorem As.partsP (a : Addr) (w : World) : (ReflectliteValue.parts (.agg #[.pointer (some ⟨3, 74, none⟩), .pointer (some a), .int .u64 150])).run Tryz.prog w = .ok (some (74, a, 150)) w := by kernel_rfl
theorem As.isNilP (a p : Addr) (W : World) (ha : W.cell? a = some (.pointer (some p))) :
    (ReflectliteValue.method (ReflectliteValue.valueError "reflectlite.Value.IsNil" 0) ReflectliteValue.isNil #[.agg #[.pointer (some ⟨3, 74, none⟩), .pointer (some a), .int .u64 150]]).run Tryz.prog W = .ok (.bool false) W := by
  rw [rlm]
  simp only [Sem.run_bind, As.partsP, Result.andThen]
  simp [ReflectliteValue.isNil, loadVar, isAgg, underlying, Tryz.underlying74, ha, Result.andThen]

theorem As.methodElem (d : Nat) (h : Value) (w : World) : (Go.method (d + 2) 128 (.agg #[h]) "Elem").run Tryz.prog w = .ok (108, .agg #[h]) w := by kernel_rfl
theorem As.methodImplements (d : Nat) (h : Value) (w : World) : (Go.method (d + 2) 128 (.agg #[h]) "Implements").run Tryz.prog w = .ok (109, .agg #[h]) w := by kernel_rfl
theorem As.methodAssignableTo (d : Nat) (h : Value) (w : World) : (Go.method (d + 2) 128 (.agg #[h]) "AssignableTo").run Tryz.prog w = .ok (106, .agg #[h]) w := by kernel_rfl
theorem As.elemP (w : World) : (ReflectliteType.method ReflectliteType.elem #[.agg #[.pointer (some ⟨3, 74, none⟩)]]).run Tryz.prog w = .ok (.iface 128 (.agg #[.pointer (some ⟨3, 72, none⟩)])) w := by kernel_rfl
theorem As.implementsT (w : World) : (ReflectliteType.relation "Implements" ReflectliteType.implements_ #[.agg #[.pointer (some ⟨3, 72, none⟩)], .iface 128 (.agg #[.pointer (some ⟨3, 51, none⟩)])]).run Tryz.prog w = .ok (.bool true) w := by kernel_rfl
theorem As.typeOfT (v : Value) (w : World) : (ReflectliteType.typeOf #[.iface 72 v]).run Tryz.prog w = .ok (.iface 128 (.agg #[.pointer (some ⟨3, 72, none⟩)])) w := by kernel_rfl
theorem As.assignableT (w : World) : (ReflectliteType.relation "AssignableTo" ReflectliteType.assignableTo #[.agg #[.pointer (some ⟨3, 72, none⟩)], .iface 128 (.agg #[.pointer (some ⟨3, 72, none⟩)])]).run Tryz.prog w = .ok (.bool true) w := by kernel_rfl
theorem As.valueOfT (c p i : Int) (w : World) : (ReflectliteValue.unpack (.iface 72 (FV c p i))).run Tryz.prog w
    = .ok (.agg #[.pointer (some ⟨3, 72, none⟩), .pointer (some ⟨w.heap.size, 0, none⟩), .int .u64 153]) (w.alloc (.cells #[.int .i64 c, .int .i64 p, .int .i64 i] 72)) := by kernel_rfl

theorem As.elemOfP (w : World) : (Rtype.elem? 74).run Tryz.prog w = .ok (some 72) w := by kernel_rfl
theorem As.mkT (p : Addr) (w : World) : (ReflectliteValue.mk 72 p ReflectliteValue.flagAddr).run Tryz.prog w = .ok (.agg #[.pointer (some ⟨3, 72, none⟩), .pointer (some p), .int .u64 409]) w := by kernel_rfl
theorem As.elemVP (a p : Addr) (W : World) (ha : W.cell? a = some (.pointer (some p))) :
    (ReflectliteValue.method (ReflectliteValue.valueError "reflectlite.Value.Elem" 0) ReflectliteValue.elem #[.agg #[.pointer (some ⟨3, 74, none⟩), .pointer (some a), .int .u64 150]]).run Tryz.prog W
      = .ok (.agg #[.pointer (some ⟨3, 72, none⟩), .pointer (some p), .int .u64 409]) W := by
  rw [rlm]
  simp only [Sem.run_bind, As.partsP, Result.andThen]
  simp [ReflectliteValue.elem, loadVar, isAgg, underlying, Tryz.underlying74, ha, Result.andThen, As.elemOfP, As.mkT]
theorem As.partsTa (a : Addr) (w : World) : (ReflectliteValue.parts (.agg #[.pointer (some ⟨3, 72, none⟩), .pointer (some a), .int .u64 409])).run Tryz.prog w = .ok (some (72, a, 409)) w := by kernel_rfl
theorem As.partsT (a : Addr) (w : World) : (ReflectliteValue.parts (.agg #[.pointer (some ⟨3, 72, none⟩), .pointer (some a), .int .u64 153])).run Tryz.prog w = .ok (some (72, a, 153)) w := by kernel_rfl
theorem As.directT (w : World) : (Rtype.directlyAssignable 72 72).run Tryz.prog w = .ok true w := by kernel_rfl
theorem As.load3 (b : Nat) (c p i : Value) (W : World) (hb0 : W.cell? ⟨b, 0, none⟩ = some c) (hb1 : W.cell? ⟨b, 1, none⟩ = some p) (hb2 : W.cell? ⟨b, 2, none⟩ = some i) : (loadCells ⟨b, 0, none⟩ 3).run Tryz.prog W = .ok #[c, p, i] W := by
  simp [loadCells, loadCellsFrom, Sem.run_bind, Addr.add, hb0, hb1, hb2, Result.andThen]
theorem As.store3 (tb : Nat) (c p i : Int) (o0 o1 o2 : Value) (W : World) (ht0 : W.cell? ⟨tb, 0, none⟩ = some o0) (ht1 : W.cell? ⟨tb, 1, none⟩ = some o1) (ht2 : W.cell? ⟨tb, 2, none⟩ = some o2) (hf : ∀ j, W.frozen? ⟨tb, j, none⟩ = false) :
    (storeCells ⟨tb, 0, none⟩ [.int .i64 c, .int .i64 p, .int .i64 i]).run Tryz.prog W = .ok () (((W.setCell ⟨tb, 0, none⟩ (.int .i64 c)).setCell ⟨tb, 1, none⟩ (.int .i64 p)).setCell ⟨tb, 2, none⟩ (.int .i64 i)) := by
  simp [storeCells, Addr.add, go_sem, ht0, ht1, ht2, hf]
theorem As.setT (tb b : Nat) (c p i : Int) (o0 o1 o2 : Value) (W : World) (hb0 : W.cell? ⟨b, 0, none⟩ = some (.int .i64 c)) (hb1 : W.cell? ⟨b, 1, none⟩ = some (.int .i64 p)) (hb2 : W.cell? ⟨b, 2, none⟩ = some (.int .i64 i)) (ht0 : W.cell? ⟨tb, 0, none⟩ = some o0) (ht1 : W.cell? ⟨tb, 1, none⟩ = some o1) (ht2 : W.cell? ⟨tb, 2, none⟩ = some o2) (hf : ∀ j, W.frozen? ⟨tb, j, none⟩ = false) :
    (ReflectliteValue.set #[.agg #[.pointer (some ⟨3, 72, none⟩), .pointer (some ⟨tb, 0, none⟩), .int .u64 409], .agg #[.pointer (some ⟨3, 72, none⟩), .pointer (some ⟨b, 0, none⟩), .int .u64 153]]).run Tryz.prog W
      = .ok (.tuple #[]) (((W.setCell ⟨tb, 0, none⟩ (.int .i64 c)).setCell ⟨tb, 1, none⟩ (.int .i64 p)).setCell ⟨tb, 2, none⟩ (.int .i64 i)) := by
  change (Bind.bind (ReflectliteValue.parts (.agg #[.pointer (some ⟨3, 72, none⟩), .pointer (some ⟨tb, 0, none⟩), .int .u64 409])) fun r => Bind.bind (ReflectliteValue.parts (.agg #[.pointer (some ⟨3, 72, none⟩), .pointer (some ⟨b, 0, none⟩), .int .u64 153])) _).run Tryz.prog W = _
  simp only [Sem.run_bind, As.partsTa, As.partsT, Result.andThen]
  simp [ReflectliteValue.flagAddr, loadVar, isAgg, underlying, Tryz.underlying72, As.load3 b _ _ _ W hb0 hb1 hb2, Result.andThen, As.directT, storeVar, Value.cells, As.store3 tb c p i o0 o1 o2 W ht0 ht1 ht2 hf]

abbrev As.P1 (tb : Nat) : Obj := .cells #[.pointer (some ⟨tb, 0, none⟩)] 74
abbrev As.V1 (n : Nat) : Obj := .cells #[.pointer (some ⟨3, 74, none⟩), .pointer (some ⟨n, 0, none⟩), .int .u64 150] 97
abbrev As.T1 (c p i : Int) : Obj := .cells #[.int .i64 c, .int .i64 p, .int .i64 i] 72

set_option maxHeartbeats 4000000 in
theorem as_hit (tb : Nat) (c p i : Int) (o0 o1 o2 : Value) (w : World) (hg : w.cell? ⟨0, 0, none⟩ = some (.iface 128 (.agg #[.pointer (some ⟨3, 51, none⟩)]))) (ht0 : w.cell? ⟨tb, 0, none⟩ = some o0) (ht1 : w.cell? ⟨tb, 1, none⟩ = some o1) (ht2 : w.cell? ⟨tb, 2, none⟩ = some o2) (hf : ∀ j, w.frozen? ⟨tb, j, none⟩ = false) :
    Calls Tryz.prog 25 #[.iface 72 (FV c p i), .iface 74 (.pointer (some ⟨tb, 0, none⟩))] w fun ev w' => ev = .returned (.bool true) ∧ w' = ((((((w.alloc (As.P1 tb)).alloc (As.V1 w.heap.size)).alloc (As.V1 w.heap.size)).alloc (As.T1 c p i)).setCell ⟨tb, 0, none⟩ (.int .i64 c)).setCell ⟨tb, 1, none⟩ (.int .i64 p)).setCell ⟨tb, 2, none⟩ (.int .i64 i) := by
  have h6 := @run_callFunc_extern Tryz.prog 46 _ (fun args => ReflectliteValue.unpack (args.getD 0 (.tuple #[]))) Tryz.func46 (by kernel_rfl) (by kernel_rfl) (by kernel_rfl) (by kernel_rfl)
  have h7 := @run_callFunc_extern Tryz.prog 47 _ (ReflectliteValue.methodAny (ReflectliteValue.valueError "reflectlite.Value.Type" 0) (fun t _ _ _ => ReflectliteType.toType t)) Tryz.func47 (by kernel_rfl) (by kernel_rfl) (by kernel_rfl) (by kernel_rfl)
  have h8 := @run_callFunc_extern Tryz.prog 48 _ (ReflectliteValue.method (ReflectliteValue.valueError "reflectlite.Value.IsNil" 0) ReflectliteValue.isNil) Tryz.func48 (by kernel_rfl) (by kernel_rfl) (by kernel_rfl) (by kernel_rfl)
  have h27 := @run_callFunc_extern Tryz.prog 98 _ (ReflectliteType.abiMethod fun t => do pure (.int .u8 (← Rtype.kind t))) Tryz.func98 (by kernel_rfl) (by kernel_rfl) (by kernel_rfl) (by kernel_rfl)
  have h37 := @run_callFunc_extern Tryz.prog 108 _ (ReflectliteType.method ReflectliteType.elem) Tryz.func108 (by kernel_rfl) (by kernel_rfl) (by kernel_rfl) (by kernel_rfl)
  have h38 := @run_callFunc_extern Tryz.prog 109 _ (ReflectliteType.relation "Implements" ReflectliteType.implements_) Tryz.func109 (by kernel_rfl) (by kernel_rfl) (by kernel_rfl) (by kernel_rfl)
  have h10 := @run_callFunc_extern Tryz.prog 68 _ ReflectliteType.typeOf Tryz.func68 (by kernel_rfl) (by kernel_rfl) (by kernel_rfl) (by kernel_rfl)
  have h35 := @run_callFunc_extern Tryz.prog 106 _ (ReflectliteType.relation "AssignableTo" ReflectliteType.assignableTo) Tryz.func106 (by kernel_rfl) (by kernel_rfl) (by kernel_rfl) (by kernel_rfl)
  have h11 := @run_callFunc_extern Tryz.prog 69 _ (ReflectliteValue.method (ReflectliteValue.valueError "reflectlite.Value.Elem" 0) ReflectliteValue.elem) Tryz.func69 (by kernel_rfl) (by kernel_rfl) (by kernel_rfl) (by kernel_rfl)
  have h12 := @run_callFunc_extern Tryz.prog 70 _ ReflectliteValue.set Tryz.func70 (by kernel_rfl) (by kernel_rfl) (by kernel_rfl) (by kernel_rfl)
  have tO := As.typeOfT
  have mA := As.methodAssignableTo
  have a25 := As.assignableT
  have v25 := As.valueOfT
  have f6 := As.valueOfP
  have f7 := As.typeP
  have mK := As.methodKind
  have mE := As.methodElem
  have mI := As.methodImplements
  have k27 := As.kindP
  have k25 := As.kindT
  have e27 := As.elemP
  have i25 := As.implementsT
  have b2 := bw2 w (As.P1 tb) (As.V1 w.heap.size)
  have b3 := bw3 w (As.P1 tb) (As.V1 w.heap.size) (As.V1 w.heap.size)
  have b4 := below_alloc b3 (As.T1 c p i)
  have n8 := As.isNilP ⟨w.heap.size, 0, none⟩ ⟨tb, 0, none⟩ ((w.alloc (As.P1 tb)).alloc (As.V1 w.heap.size)) (by rw [blk_cell (blk_old (blk_new _ _) _)]; rfl)
  have hg2 : ((w.alloc (As.P1 tb)).alloc (As.V1 w.heap.size)).cell? ⟨0, 0, none⟩ = some (.iface 128 (.agg #[.pointer (some ⟨3, 51, none⟩)])) := cell_later b2 hg
  have el := As.elemVP ⟨w.heap.size, 0, none⟩ ⟨tb, 0, none⟩ (((w.alloc (As.P1 tb)).alloc (As.V1 w.heap.size)).alloc (As.V1 w.heap.size)) (by rw [blk_cell (blk_old (blk_old (blk_new _ _) _) _)]; rfl)
  have htl : tb < w.heap.size := World.block_lt_of_cell? _ _ ht0
  have hfz : ∀ j, ((((w.alloc (As.P1 tb)).alloc (As.V1 w.heap.size)).alloc (As.V1 w.heap.size)).alloc (As.T1 c p i)).frozen? ⟨tb, j, none⟩ = false := fun j => by
    rw [World.frozen?_alloc_old _ _ ⟨tb, j, none⟩ (by simp; omega), World.frozen?_alloc_old _ _ ⟨tb, j, none⟩ (by simp; omega), World.frozen?_alloc_old _ _ ⟨tb, j, none⟩ (by simp; omega), World.frozen?_alloc_old _ _ ⟨tb, j, none⟩ (by simp; omega)]
    exact hf j
  have hnw : ((((w.alloc (As.P1 tb)).alloc (As.V1 w.heap.size)).alloc (As.V1 w.heap.size)).alloc (As.T1 c p i)).heap[w.heap.size + 1 + 1 + 1]? = some (As.T1 c p i) := blk_newn (by simp) _
  have st := As.setT tb (w.heap.size + 1 + 1 + 1) c p i o0 o1 o2 ((((w.alloc (As.P1 tb)).alloc (As.V1 w.heap.size)).alloc (As.V1 w.heap.size)).alloc (As.T1 c p i)) (by rw [blk_cell hnw]; rfl) (by rw [blk_cell hnw]; rfl) (by rw [blk_cell hnw]; rfl) (cell_later b4 ht0) (cell_later b4 ht1) (cell_later b4 ht2) hfz
  clear hnw b2 b3 b4 hg hfz
  go_enter Tryz.func25, Tryz.ntmps25
  go_wp2
  refine wp_loop_rounds 1 ?_
  rw [rounds_succ]
  go_wp2
  go_ret
  exact ⟨rfl, rfl⟩

set_option maxHeartbeats 4000000 in
theorem faultof_none (w : World) : Calls Tryz.prog 15 #[.nilIface] w fun e w' => e = .returned (FV 0 0 0) ∧ Below w.heap.size w w' := by
  go_enter Tryz.func15, Tryz.ntmps15
  go_wp2_with (go_at_call 25; refine (as_nil _ _).mono ?_; rintro e w' ⟨rfl, rfl⟩)
  exact bodyPost_ret (v := FV 0 0 0) (by simp [results, Tryz.results15, go_sem]) rfl ⟨rfl, bw2 _ _ _⟩
end Go.Proofs.YtmicnjphlakoaaaGreatDoor
