/-
  OWN WORK. The law FnExactCheckShape: the row and its card.
-/
import Derived.Test.YtmicnjphlakoaaaGreatDoorCShWalk
import Derived.Test.YtmicnjphlakoaaaGreatDoorTie
import Derived.Test.YtmicnjphlakoaaaGreatDoorCards
import Derived.OpenVars
import Derived.LaidHandle
import Derived.LaidLaws
import Derived.SevenTiedAt
import Derived.FnData
namespace Go.Proofs.YtmicnjphlakoaaaGreatDoor.lawCheckShape
open Go.ChangeShapes Go.WideShapes Go.ChangeAt Go.RowKit
set_option linter.unusedVariables false

/-! ### What the listed variables hold -/
theorem et : Tryz.prog.globalNamed "errors.errorType" = some 0 := by kernel_rfl
theorem lt : Tryz.prog.globalNamed "loop.example/punch/impl.layouts" = some 2 := by kernel_rfl
theorem rt : (Tryz.prog.cutTypes.find? (·.1 == "internal/reflectlite.rtype")).map (·.2) = some 128 := by kernel_rfl
theorem oneRow : ((List.range 201).filter fun t => Tryz.prog.rowNamed t [101, 114, 114, 111, 114]) = [51] := by kernel_rfl
theorem tsize : Tryz.prog.types.size = 201 := by kernel_rfl
theorem layType : (Tryz.prog.globals[(2 : Nat)]?).map (·.type) = some 160 := by kernel_rfl
theorem layIs : (Rows.laid_loop_example_punch_impl_layouts : DataW Unit) = .agg (layT.map fun l => .agg (l.map fun z => .lit (.int .i64 z))) := rfl

theorem err_of {W : World} (h : handlesMet Tryz.prog [("errors.errorType", Rows.laid_errors_errorType)] W) : ErrAt W := by
  obtain ⟨name, u, ty, e1, e2, e3, e4, e5⟩ := h _ (List.mem_singleton.2 rfl)
  have en : name = [101, 114, 114, 111, 114] := (Option.some.inj e1).symm
  subst en
  obtain rfl := Option.some.inj (rt.symm.trans e2)
  have hm : ty ∈ (List.range 201).filter fun t => Tryz.prog.rowNamed t [101, 114, 114, 111, 114] := List.mem_filter.2 ⟨List.mem_range.2 (by rw [← tsize]; exact e3), e4⟩
  rw [oneRow] at hm
  obtain rfl := List.mem_singleton.1 hm
  have hh : typeHandle Tryz.prog 51 = .pointer (some ⟨3, 51, none⟩) := by kernel_rfl
  rw [hh] at e5
  unfold ErrAt
  simpa using World.var?_cell et e5 0

theorem lay_len : ∀ l ∈ layT, l.length = 4 := by decide

theorem lay_of {W : World} (h : laidMet Tryz.prog [("loop.example/punch/impl.layouts", Rows.laid_loop_example_punch_impl_layouts)] W) : LayAt W := by
  obtain ⟨ps, hv, _⟩ := h
  obtain ⟨g, t, cs, fuel, p, q, h1, h2, h3, h4, h5, h6⟩ := hv
  obtain rfl := Option.some.inj (lt.symm.trans h1)
  obtain rfl := Option.some.inj (layType.symm.trans h2)
  have hc := fun j => World.var?_cell lt h3 j
  obtain ⟨xs, m, _, hx, hl, hlen, he⟩ := DataW.trod_array Tryz.underlying160 h4
  have k4 : Tryz.prog.cellsOf 159 = 4 := by kernel_rfl
  have k1 : Tryz.prog.cellsOf 142 = 1 := by kernel_rfl
  have hC : Tryz.prog.cellsOf 160 = 172 := by kernel_rfl
  rw [k4] at he
  rw [hC] at hl
  have hd : layT.map (fun l => (.agg (l.map fun z => .lit (.int .i64 z)) : DataW Unit)) = xs.map (·.1) := by
    have := congrArg Prod.fst hx
    rw [layIs] at this
    simpa using this
  intro i j hi hj
  obtain ⟨l, hli⟩ : ∃ l, layT[i]? = some l := ⟨layT[i]'hi, List.getElem?_eq_getElem _⟩
  obtain ⟨y, hy⟩ : ∃ y, xs[i]? = some y := ⟨xs[i]'(by omega), List.getElem?_eq_getElem _⟩
  have hyl : y.1 = .agg (l.map fun z => .lit (.int .i64 z)) := by
    have := congrArg (fun a => a[i]?) hd
    simp only [List.getElem?_map, hli, hy, Option.map_some, Option.some.injEq] at this
    exact this.symm
  have ht := he i hi
  rw [hy] at ht
  obtain ⟨zs, n, _, hz, hzl, hzn, hf⟩ := DataW.trod_struct Tryz.underlying159 ht
  rw [k4] at hzl
  obtain ⟨z0, z1, z2, z3, hl4⟩ := list4 (lay_len l (List.mem_of_getElem? hli))
  obtain ⟨c0, c1, c2, c3, hcs⟩ := list4 hzl
  obtain ⟨y0, y1, y2, y3, rfl⟩ := list4 hzn
  have hz1 := congrArg Prod.fst hz
  rw [hyl, hl4] at hz1
  simp only [List.map_cons, List.map_nil, DataW.agg.injEq, List.cons.injEq, and_true] at hz1
  obtain ⟨q0, q1, q2, q3⟩ := hz1
  rw [hcs] at hf
  have t0 : DataW.trod (fun _ => ()) Tryz.prog W 0 (fun _ => true) false n 142 [c0] = some y0 := by simpa [k1] using hf 0 _ rfl
  have t1 : DataW.trod (fun _ => ()) Tryz.prog W 0 (fun _ => true) false n 142 [c1] = some y1 := by simpa [k1] using hf 1 _ rfl
  have t2 : DataW.trod (fun _ => ()) Tryz.prog W 0 (fun _ => true) false n 142 [c2] = some y2 := by simpa [k1] using hf 2 _ rfl
  have t3 : DataW.trod (fun _ => ()) Tryz.prog W 0 (fun _ => true) false n 142 [c3] = some y3 := by simpa [k1] using hf 3 _ rfl
  obtain ⟨v0, e0, x0, _⟩ := DataW.trod_int Tryz.underlying142 t0
  obtain ⟨v1, e1, x1, _⟩ := DataW.trod_int Tryz.underlying142 t1
  obtain ⟨v2, e2, x2, _⟩ := DataW.trod_int Tryz.underlying142 t2
  obtain ⟨v3, e3, x3, _⟩ := DataW.trod_int Tryz.underlying142 t3
  rw [x0] at q0
  rw [x1] at q1
  rw [x2] at q2
  rw [x3] at q3
  simp only [DataW.lit.injEq, Lit.int.injEq, true_and] at q0 q1 q2 q3
  subst q0 q1 q2 q3
  simp only [List.cons.injEq, and_true] at e0 e1 e2 e3
  subst e0 e1 e2 e3
  have hcell : ∀ j v, ([.int .i64 z0, .int .i64 z1, .int .i64 z2, .int .i64 z3] : List Value)[j]? = some v → W.cell? ⟨2, i * 4 + j, none⟩ = some v := by
    intro j v hv
    rw [hc, ← Array.getElem?_toList]
    have hj4 : j < 4 := by have := (List.getElem?_eq_some_iff.1 hv).1; simpa using this
    have := congrArg (fun a => a[j]?) hcs
    simp only [List.getElem?_take, List.getElem?_drop, hj4, if_true] at this
    rw [this]; exact hv
  have hg : layT.getD i [] = l := by rw [List.getD_eq_getElem?_getD, hli]; rfl
  unfold li
  rw [hg, hl4]
  match j, hj with
  | 0, _ => exact hcell 0 _ rfl
  | 1, _ => exact hcell 1 _ rfl
  | 2, _ => exact hcell 2 _ rfl
  | 3, _ => exact hcell 3 _ rfl

/-! ### The row's step -/
theorem own : ownKnob Tryz.prog.godebug = none := by kernel_rfl
theorem laidOut : laidOutB Tryz.prog = true := by kernel_rfl
theorem rowed : varsRowed Tryz.prog Rows.fnExactCheckShapeSpec.vars = true := by kernel_rfl

theorem met_of {W : World} (h : laidMetH Tryz.prog Rows.fnExactCheckShapeRow.laid W) : LayAt W ∧ ErrAt W := by
  have h' : laidMet Tryz.prog [("loop.example/punch/impl.layouts", Rows.laid_loop_example_punch_impl_layouts)] W ∧ handlesMet Tryz.prog [("errors.errorType", Rows.laid_errors_errorType)] W := h
  exact ⟨lay_of h'.1, err_of h'.2⟩

/-- The cells of a settled world's variables, laid. -/
def layObj : Obj → Obj
  | .cells _ t frozen => .cells (layT.flatMap fun l => l.map fun z => Value.int .i64 z).toArray t frozen
  | o => o
def errObj : Obj → Obj
  | .cells _ t frozen => .cells #[.iface 128 (.agg #[.pointer (some ⟨3, 51, none⟩)])] t frozen
  | o => o
def laidOf (w : World) : World := { w with heap := (w.heap.modify 0 errObj).modify 2 layObj }

theorem laid_met (os : Os) (args : Array Value) : laidMetH Tryz.prog Rows.fnExactCheckShapeRow.laid ((laidOf (World.holding Tryz.prog os ⟨#[], #[], []⟩)).forCall (fun _ _ => 0) ⟨#[], args, []⟩).memory :=
  laidMetH_of_parts (laidMet_of_run' 8 (by kernel_rfl) (by kernel_rfl)) (by kernel_rfl)

set_option maxRecDepth 100000 in
theorem lifted (os : Os) (started : os.Started) (H : Type) (enc : TypeId × Value → H) :
    ReturnsInHanded {} Tryz.checked os 3 .any (fun w args => (Rows.fnExactCheckShapeSpec.pre enc Tryz.prog Tryz.f3 [] false w args ∧ laidMetH Tryz.prog Rows.fnExactCheckShapeRow.laid w) ∧ sizedMet enc Tryz.prog Tryz.f3 (OpenSpec.ofChange Rows.fnExactCheckShapeSpec) false w args)
      (Rows.fnExactCheckShapeSpec.post enc Tryz.prog Tryz.f3 false true false false) := by
  refine returnsInHanded_of_change_and (C := Tryz.checked) (X := fun w _ => laidMetH Tryz.prog Rows.fnExactCheckShapeRow.laid w) (fun _ _ _ hh h => h.of_heap hh) own started (by kernel_rfl) Tryz.func3
    (ChangeSpec.witness_at (enc := enc) (C := Tryz.checked) (os := os) (X := fun w _ => laidMetH Tryz.prog Rows.fnExactCheckShapeRow.laid w) false (laidOf (World.holding Tryz.prog os ⟨#[], #[], []⟩)) #[.agg #[.slice none 0 0]] 8 rfl (by kernel_rfl) (by kernel_rfl) (by kernel_rfl) (by kernel_rfl) (by kernel_rfl) (laid_met os _)) ?_
  intro W base args ds gs before hval0 hW _ _ hL _
  have hval : ∀ (j : Nat) t v, Tryz.f3.params[j]? = some t → args[j]? = some v → Value.okWide Tryz.prog W .any base t v := hval0
  have hW' := hW
  obtain ⟨p, q, hA0, hV, rfl, hfz, hnd⟩ := hW
  have hA : DataW.TrodAll enc Tryz.prog W 0 (fun _ => true) true Tryz.f3.params.toList args.toList ds p := hA0
  rw [Tryz.params3] at hA hval
  obtain ⟨v0, vs0, d0, ds0, p0, q0, hargs, rfl, rfl, h0, r0⟩ := trodAll_cons hA
  obtain ⟨rfl, rfl, rfl⟩ := trodAll_nil r0
  obtain rfl : args = #[v0] := by cases args; simp_all
  have k0 := h0
  have lt0 : ∀ x ∈ p0, x.block < W.heap.size := by obtain ⟨m, hm⟩ := k0; exact DataW.trod_lt m _ _ _ hm
  obtain ⟨a, cap, xs, rfl, hp, hxs, hlm⟩ := open_code (hval 0 24 v0 rfl rfl) h0
  obtain ⟨g1, rfl⟩ : ∃ g1, gs = [g1] := by
    obtain ⟨_, _, _, _, _, _, hgs, _⟩ := trodVars_one hV
    exact ⟨_, hgs⟩
  obtain ⟨hlay, herr⟩ := met_of hL
  clear hA0 hval0 hval h0
  refine (walk a cap xs W hp hxs hlm hlay herr).mono fun e W' ⟨he, bel⟩ => ?_
  subst he
  exact ⟨_, rfl, _, _, _, [], _, _, hW', trodAll_mk1 (shut_bool Tryz.underlying4 _), (trodAll_cons_mk (Below.trod laidOut (by kernel_rfl) (of_decide_eq_true (by kernel_rfl)) k0 bel lt0) trodAll_mk0), Below.trodVars laidOut bel rowed hV, bel.frame _, fun h => by cases h⟩

theorem over : Rows.fnExactCheckShapeRow.holds Tryz.pinned (OpenSpec.ofChange Rows.fnExactCheckShapeSpec) :=
  OpenClaim.holds_of_wide 3 Tryz.f3 rfl rfl rfl rfl rfl rfl rfl ⟨rfl, rfl, rfl, rfl, rfl⟩ rfl rfl rfl rfl rfl (by kernel_rfl) Tryz.func3 (by kernel_rfl)
    (of_decide_eq_true (by kernel_rfl)) (by unfold Func.isWrapper; first | (rw [if_pos (by decide +kernel)]; kernel_rfl) | (rw [if_neg (by decide +kernel)]; exact ⟨rfl, rfl⟩))
    (fun os started H enc _ => lifted os started H enc)

end Go.Proofs.YtmicnjphlakoaaaGreatDoor.lawCheckShape
namespace Go.Proofs.YtmicnjphlakoaaaGreatDoor
open Go
theorem checkShape_holds : Rows.FnExactCheckShapeCardSaid :=
  Claim7.holds_tied_plain_at .later [] [.handle, .data] true _ true
    lawCheckShape.over (fun _ h => by cases h) (by kernel_rfl) (fun _ h => by cases h) fnExactCheckShape_row_tie rfl ⟨rfl, rfl⟩ (by kernel_rfl) rfl
    (fun f fn hf hfn => by
      obtain rfl : f = 3 := Option.some.inj ((show Tryz.prog.funcNamed "loop.example/punch/laws.FnExactCheckShape" = some 3 by kernel_rfl).symm.trans hf) |>.symm
      obtain rfl : fn = Tryz.f3 := (Option.some.inj (Tryz.func3.symm.trans hfn)).symm
      exact ⟨by kernel_rfl, fun j t ht => by
        rw [Tryz.params3] at ht
        have hm : t ∈ [(24 : Nat)] := by simpa using Array.mem_of_getElem? ht
        have hall : ([(24 : Nat)].all fun u => !Tryz.prog.wantsStandIn u) = true := by kernel_rfl
        exact (show Tryz.prog.wantsStandIn t = false by simpa using List.all_eq_true.1 hall t hm)⟩)
    (by kernel_rfl)
#print axioms checkShape_holds
end Go.Proofs.YtmicnjphlakoaaaGreatDoor
