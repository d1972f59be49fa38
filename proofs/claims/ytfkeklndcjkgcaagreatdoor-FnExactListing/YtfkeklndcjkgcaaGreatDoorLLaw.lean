/-
  OWN WORK. The law FnExactListing: the row and its card.
-/
import Derived.Test.YtfkeklndcjkgcaaGreatDoorLWalk
import Derived.Test.YtfkeklndcjkgcaaGreatDoorTie
import Derived.Test.YtfkeklndcjkgcaaGreatDoorCards
import Derived.OpenVars
import Derived.OpenShut
import Derived.LaidHandle
import Derived.LaidLaws
import Derived.Lib.LaidTab
import Derived.Stop.LaidErr
import Derived.SevenTiedAt
import Derived.FnData
namespace Go.Proofs.YtfkeklndcjkgcaaGreatDoor.lawListing
open Go.ChangeShapes Go.WideShapes Go.ChangeAt Go.RowKit
set_option linter.unusedVariables false

/-! ### What the listed variables hold -/
theorem lt : Tryz.prog.globalNamed "loop.example/punch/impl.layouts" = some 2 := by kernel_rfl
theorem layType : (Tryz.prog.globals[(2 : Nat)]?).map (·.type) = some 221 := by kernel_rfl
theorem layIs : (Rows.laid_loop_example_punch_impl_layouts : DataW Unit) = .agg (layT.map fun l => .agg (l.map fun z => .lit (.int .i64 z))) := rfl
theorem nt : Tryz.prog.globalNamed "loop.example/punch/impl.opNames" = some 0 := by kernel_rfl
theorem namType : (Tryz.prog.globals[(0 : Nat)]?).map (·.type) = some 101 := by kernel_rfl
theorem namIs : (Rows.laid_loop_example_punch_impl_opNames : DataW Unit) = .agg (nameT.map fun l => .lit (.string l)) := rfl
theorem tenType : (Tryz.prog.globals[(3 : Nat)]?).map (·.type) = some 237 := by kernel_rfl
theorem tenIs : (Rows.laid_internal_strconv_uint64pow10 : DataW Unit) = Lib.tabData .u64 Lib.pow10Tab := by kernel_rfl

theorem lay_len : ∀ l ∈ layT, l.length = 4 := by decide

theorem lay_of {W : World} {rest : List (String × DataW Unit)} (h : laidMet Tryz.prog (("loop.example/punch/impl.layouts", Rows.laid_loop_example_punch_impl_layouts) :: rest) W) : LayAt W := by
  obtain ⟨ps, hv, _⟩ := h
  obtain ⟨g, t, cs, fuel, p, q, h1, h2, h3, h4, h5, h6⟩ := hv
  obtain rfl := Option.some.inj (lt.symm.trans h1)
  obtain rfl := Option.some.inj (layType.symm.trans h2)
  have hc := fun j => World.var?_cell lt h3 j
  obtain ⟨xs, m, _, hx, hl, hlen, he⟩ := DataW.trod_array Tryz.underlying221 h4
  have k4 : Tryz.prog.cellsOf 220 = 4 := by kernel_rfl
  have k1 : Tryz.prog.cellsOf 193 = 1 := by kernel_rfl
  have hC : Tryz.prog.cellsOf 221 = 172 := by kernel_rfl
  rw [k4] at he
  rw [hC] at hl
  have hd : layT.map (fun l => (.agg (l.map fun z => .lit (.int .i64 z)) : DataW Unit)) = xs.map (·.1) := by
    have := congrArg Prod.fst hx
    rw [layIs] at this
    simpa using this
  intro i j hi hj
  obtain ⟨l, hli⟩ : ∃ l, layT[i]? = some l := ⟨layT[i]'hi, List.getElem?_eq_getElem _⟩
  obtain ⟨y, hy⟩ : ∃ y, xs[i]? = some y := ⟨xs[i]'(by omega), List.getElem?_eq_getElem _⟩
  have hyl : y.1 = .agg (l.map fun z => .lit (.int .i64 z)) := by
    have := congrArg (fun a => a[i]?) hd
    simp only [List.getElem?_map, hli, hy, Option.map_some, Option.some.injEq] at this
    exact this.symm
  have ht := he i hi
  rw [hy] at ht
  obtain ⟨zs, n, _, hz, hzl, hzn, hf⟩ := DataW.trod_struct Tryz.underlying220 ht
  rw [k4] at hzl
  obtain ⟨z0, z1, z2, z3, hl4⟩ := list4 (lay_len l (List.mem_of_getElem? hli))
  obtain ⟨c0, c1, c2, c3, hcs⟩ := list4 hzl
  obtain ⟨y0, y1, y2, y3, rfl⟩ := list4 hzn
  have hz1 := congrArg Prod.fst hz
  rw [hyl, hl4] at hz1
  simp only [List.map_cons, List.map_nil, DataW.agg.injEq, List.cons.injEq, and_true] at hz1
  obtain ⟨q0, q1, q2, q3⟩ := hz1
  rw [hcs] at hf
  have t0 : DataW.trod (fun _ => ()) Tryz.prog W 0 (fun _ => true) false n 193 [c0] = some y0 := by simpa [k1] using hf 0 _ rfl
  have t1 : DataW.trod (fun _ => ()) Tryz.prog W 0 (fun _ => true) false n 193 [c1] = some y1 := by simpa [k1] using hf 1 _ rfl
  have t2 : DataW.trod (fun _ => ()) Tryz.prog W 0 (fun _ => true) false n 193 [c2] = some y2 := by simpa [k1] using hf 2 _ rfl
  have t3 : DataW.trod (fun _ => ()) Tryz.prog W 0 (fun _ => true) false n 193 [c3] = some y3 := by simpa [k1] using hf 3 _ rfl
  obtain ⟨v0, e0, x0, _⟩ := DataW.trod_int Tryz.underlying193 t0
  obtain ⟨v1, e1, x1, _⟩ := DataW.trod_int Tryz.underlying193 t1
  obtain ⟨v2, e2, x2, _⟩ := DataW.trod_int Tryz.underlying193 t2
  obtain ⟨v3, e3, x3, _⟩ := DataW.trod_int Tryz.underlying193 t3
  rw [x0] at q0
  rw [x1] at q1
  rw [x2] at q2
  rw [x3] at q3
  simp only [DataW.lit.injEq, Lit.int.injEq, true_and] at q0 q1 q2 q3
  subst q0 q1 q2 q3
  simp only [List.cons.injEq, and_true] at e0 e1 e2 e3
  subst e0 e1 e2 e3
  have hcell : ∀ j v, ([.int .i64 z0, .int .i64 z1, .int .i64 z2, .int .i64 z3] : List Value)[j]? = some v → W.cell? ⟨2, i * 4 + j, none⟩ = some v := by
    intro j v hv
    rw [hc, ← Array.getElem?_toList]
    have hj4 : j < 4 := by have := (List.getElem?_eq_some_iff.1 hv).1; simpa using this
    have := congrArg (fun a => a[j]?) hcs
    simp only [List.getElem?_take, List.getElem?_drop, hj4, if_true] at this
    rw [this]; exact hv
  have hg : layT.getD i [] = l := by rw [List.getD_eq_getElem?_getD, hli]; rfl
  unfold li
  rw [hg, hl4]
  match j, hj with
  | 0, _ => exact hcell 0 _ rfl
  | 1, _ => exact hcell 1 _ rfl
  | 2, _ => exact hcell 2 _ rfl
  | 3, _ => exact hcell 3 _ rfl

theorem ten_of {W : World} {rest : List (String × DataW Unit)} (h : laidMet Tryz.prog (("internal/strconv.uint64pow10", Rows.laid_internal_strconv_uint64pow10) :: rest) W) : TenAt W := by
  rw [tenIs] at h
  exact Lib.tabIs_of_head ten_g tenType Tryz.underlying237 Tryz.underlying105 (by kernel_rfl) (by kernel_rfl) h

theorem nam_of {W : World} {rest : List (String × DataW Unit)} (h : laidMet Tryz.prog (("loop.example/punch/impl.opNames", Rows.laid_loop_example_punch_impl_opNames) :: rest) W) : NamesAt W := by
  obtain ⟨ps, hv, _⟩ := h
  obtain ⟨g, t, cs, fuel, p, q, h1, h2, h3, h4, h5, h6⟩ := hv
  obtain rfl := Option.some.inj (nt.symm.trans h1)
  obtain rfl := Option.some.inj (namType.symm.trans h2)
  have hc := fun j => World.var?_cell nt h3 j
  obtain ⟨xs, m, _, hx, hl, hlen, he⟩ := DataW.trod_array Tryz.underlying101 h4
  have k1 : Tryz.prog.cellsOf 9 = 1 := by kernel_rfl
  have hC : Tryz.prog.cellsOf 101 = 43 := by kernel_rfl
  rw [k1] at he
  rw [hC] at hl
  have hd : nameT.map (fun l => (.lit (.string l) : DataW Unit)) = xs.map (·.1) := by
    have := congrArg Prod.fst hx
    rw [namIs] at this
    simpa using this
  intro k hk
  obtain ⟨y, hy⟩ : ∃ y, xs[k]? = some y := ⟨xs[k]'(by omega), List.getElem?_eq_getElem _⟩
  have hkn : k < nameT.length := hk
  have hyl : y.1 = .lit (.string (nameT[k]'hkn)) := by
    have := congrArg (fun a => a[k]?) hd
    simp only [List.getElem?_map, List.getElem?_eq_getElem hkn, hy, Option.map_some, Option.some.injEq] at this
    exact this.symm
  have ht := he k hk
  rw [hy] at ht
  obtain ⟨s, e0, x0, _⟩ := DataW.trod_string Tryz.underlying9 ht
  have hs : s.data.toList = nameT[k]'hkn := by
    rw [x0] at hyl
    simpa using hyl
  have hso : s = sOf (nameL (k : Int)) := by
    unfold nameL sOf
    rw [List.getD_eq_getElem?_getD, show ((k : Int)).toNat = k by omega, List.getElem?_eq_getElem hkn, Option.getD_some, ← hs]
  have h7 := congrArg (fun a => a[0]?) e0
  simp only [Nat.mul_one, List.getElem?_take, List.getElem?_drop, Nat.add_zero, Nat.zero_lt_one, if_true, List.getElem?_cons_zero] at h7
  rw [hc k, ← Array.getElem?_toList, h7, hso]

/-! ### The row's step -/
theorem own : ownKnob Tryz.prog.godebug = none := by kernel_rfl
theorem laidOut : laidOutB Tryz.prog = true := by kernel_rfl
theorem rowed : varsRowed Tryz.prog Rows.fnExactListingSpec.vars = true := by kernel_rfl

theorem met_of {W : World} (h : laidMetH Tryz.prog Rows.fnExactListingRow.laid W) : LayAt W ∧ TenAt W ∧ NamesAt W := by
  have h' : laidMet Tryz.prog [("math/bits.deBruijn32tab", Rows.laid_math_bits_deBruijn32tab), ("math/bits.deBruijn64tab", Rows.laid_math_bits_deBruijn64tab), ("internal/strconv.uint64pow10", Rows.laid_internal_strconv_uint64pow10), ("loop.example/punch/impl.layouts", Rows.laid_loop_example_punch_impl_layouts), ("loop.example/punch/impl.opNames", Rows.laid_loop_example_punch_impl_opNames)] W := h
  exact ⟨lay_of h'.tail.tail.tail, ten_of h'.tail.tail, nam_of h'.tail.tail.tail.tail⟩

/-- The cells of a settled world's variables, laid. -/
def putIn (cs : Array Value) : Obj → Obj
  | .cells _ t frozen => .cells cs t frozen
  | o => o
def litsOf : DataW Unit → Array Value
  | .agg l => (l.map fun x => match x with
    | .lit (.int k z) => Value.int k z
    | _ => undef).toArray
  | _ => #[]
def laidOf (w : World) : World := { w with heap :=
  ((((w.heap.modify 4 (putIn (litsOf Rows.laid_math_bits_deBruijn32tab))).modify 5 (putIn (litsOf Rows.laid_math_bits_deBruijn64tab))).modify 3 (putIn (litsOf Rows.laid_internal_strconv_uint64pow10))).modify 2 (putIn (layT.flatMap fun l => l.map fun z => Value.int .i64 z).toArray)).modify 0 (putIn (nameT.map fun l => Value.string (sOf l)).toArray) }

theorem laid_met (os : Os) (args : Array Value) : laidMetH Tryz.prog Rows.fnExactListingRow.laid ((laidOf (World.holding Tryz.prog os ⟨#[], #[], []⟩)).forCall (fun _ _ => 0) ⟨#[], args, []⟩).memory :=
  laidMetH_of_parts (laidMet_of_run' 8 (by kernel_rfl) (by kernel_rfl)) (by kernel_rfl)

set_option maxRecDepth 100000 in
theorem lifted (os : Os) (started : os.Started) (H : Type) (enc : TypeId × Value → H) :
    ReturnsInHanded {} Tryz.checked os 3 .any (fun w args => (Rows.fnExactListingSpec.pre enc Tryz.prog Tryz.f3 [] false w args ∧ laidMetH Tryz.prog Rows.fnExactListingRow.laid w) ∧ sizedMet enc Tryz.prog Tryz.f3 (OpenSpec.ofChange Rows.fnExactListingSpec) false w args)
      (Rows.fnExactListingSpec.post enc Tryz.prog Tryz.f3 false true false false) := by
  refine returnsInHanded_of_change_and (C := Tryz.checked) (X := fun w _ => laidMetH Tryz.prog Rows.fnExactListingRow.laid w) (fun _ _ _ hh h => h.of_heap hh) own started (by kernel_rfl) Tryz.func3
    (ChangeSpec.witness_at (enc := enc) (C := Tryz.checked) (os := os) (X := fun w _ => laidMetH Tryz.prog Rows.fnExactListingRow.laid w) false (laidOf (World.holding Tryz.prog os ⟨#[], #[], []⟩)) #[.agg #[.slice none 0 0]] 8 rfl (by kernel_rfl) (by kernel_rfl) (by kernel_rfl) (by kernel_rfl) (by kernel_rfl) (laid_met os _)) ?_
  intro W base args ds gs before hval0 hW _ _ hL _
  have hval : ∀ (j : Nat) t v, Tryz.f3.params[j]? = some t → args[j]? = some v → Value.okWide Tryz.prog W .any base t v := hval0
  have hW' := hW
  obtain ⟨p, q, hA0, hV, rfl, hfz, hnd⟩ := hW
  have hA : DataW.TrodAll enc Tryz.prog W 0 (fun _ => true) true Tryz.f3.params.toList args.toList ds p := hA0
  rw [Tryz.params3] at hA hval
  obtain ⟨v0, vs0, d0, ds0, p0, q0, hargs, rfl, rfl, h0, r0⟩ := trodAll_cons hA
  obtain ⟨rfl, rfl, rfl⟩ := trodAll_nil r0
  obtain rfl : args = #[v0] := by cases args; simp_all
  have k0 := h0
  have lt0 : ∀ x ∈ p0, x.block < W.heap.size := by obtain ⟨m, hm⟩ := k0; exact DataW.trod_lt m _ _ _ hm
  obtain ⟨a, cap, xs, rfl, hp, hxs, hlm⟩ := open_code (hval 0 24 v0 rfl rfl) h0
  obtain ⟨g1, g2, rfl⟩ : ∃ g1 g2, gs = [g1, g2] := by
    obtain ⟨_, _, _, _, _, _, _, _, _, _, _, _, hgs, _⟩ := trodVars_two hV
    exact ⟨_, _, hgs⟩
  obtain ⟨hlay, hten, hnam⟩ := met_of hL
  clear hA0 hval0 hval h0
  refine (walk a cap xs W hp hxs hlm hlay hten hnam).mono fun e W' ⟨he, bel⟩ => ?_
  subst he
  exact ⟨_, rfl, _, _, _, [], _, _, hW', trodAll_mk1 (shut_bool Tryz.underlying4 _), (trodAll_cons_mk (Below.trod laidOut (by kernel_rfl) (of_decide_eq_true (by kernel_rfl)) k0 bel lt0) trodAll_mk0), Below.trodVars laidOut bel rowed hV, bel.frame _, fun h => by cases h⟩

theorem over : Rows.fnExactListingRow.holds Tryz.pinned (OpenSpec.ofChange Rows.fnExactListingSpec) :=
  OpenClaim.holds_of_wide 3 Tryz.f3 rfl rfl rfl rfl rfl rfl rfl ⟨rfl, rfl, rfl, rfl, rfl⟩ rfl rfl rfl rfl rfl (by kernel_rfl) Tryz.func3 (by kernel_rfl)
    (of_decide_eq_true (by kernel_rfl)) (by unfold Func.isWrapper; first | (rw [if_pos (by decide +kernel)]; kernel_rfl) | (rw [if_neg (by decide +kernel)]; exact ⟨rfl, rfl⟩))
    (fun os started H enc _ => lifted os started H enc)

end Go.Proofs.YtfkeklndcjkgcaaGreatDoor.lawListing
namespace Go.Proofs.YtfkeklndcjkgcaaGreatDoor
open Go
theorem listing_holds : Rows.FnExactListingCardSaid :=
  Claim7.holds_tied_plain_at .later [] [.data, .data, .data, .data, .data] true _ true
    lawListing.over (fun _ h => by cases h) (by kernel_rfl) (fun _ h => by cases h) fnExactListing_row_tie rfl ⟨rfl, rfl⟩ (by kernel_rfl) rfl
    (fun f fn hf hfn => by
      obtain rfl : f = 3 := Option.some.inj ((show Tryz.prog.funcNamed "loop.example/punch/laws.FnExactListing" = some 3 by kernel_rfl).symm.trans hf) |>.symm
      obtain rfl : fn = Tryz.f3 := (Option.some.inj (Tryz.func3.symm.trans hfn)).symm
      exact ⟨by kernel_rfl, fun j t ht => by
        rw [Tryz.params3] at ht
        have hm : t ∈ [(24 : Nat)] := by simpa using Array.mem_of_getElem? ht
        have hall : ([(24 : Nat)].all fun u => !Tryz.prog.wantsStandIn u) = true := by kernel_rfl
        exact (show Tryz.prog.wantsStandIn t = false by simpa using List.all_eq_true.1 hall t hm)⟩)
    (by kernel_rfl)
#print axioms listing_holds
end Go.Proofs.YtfkeklndcjkgcaaGreatDoor
