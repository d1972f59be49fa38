/-
  OWN WORK. Codes: the law's argument opened.
-/
import Derived.Test.YtmicnjphlakoaaaGreatDoorCPTo
import Derived.Deep.Slices
import Derived.Deep.Strs
import Derived.DataShut
import Derived.ChangeSame
namespace Go.Proofs.YtmicnjphlakoaaaGreatDoor
open Go.ChangeShapes Go.WideShapes Go.ChangeAt Go.RowKit
set_option linter.unusedVariables false

theorem spot_none {w : World} {a : Addr} {v : Value} (h : w.cell? a = some v) : a = ⟨a.block, a.off, none⟩ := by
  obtain ⟨b, o, s⟩ := a
  cases s with
  | none => rfl
  | some x =>
    unfold World.cell? at h
    split at h
    · simp at h
    · cases h
theorem list1 {α : Type} {cs : List α} (h : cs.length = 1) : ∃ c0, cs = [c0] := by
  match cs, h with
  | [c0], _ => exact ⟨c0, rfl⟩
theorem list2 {α : Type} {cs : List α} (h : cs.length = 2) : ∃ c0 c1, cs = [c0, c1] := by
  match cs, h with
  | [c0, c1], _ => exact ⟨c0, c1, rfl⟩
theorem list4 {α : Type} {cs : List α} (h : cs.length = 4) : ∃ c0 c1 c2 c3, cs = [c0, c1, c2, c3] := by
  match cs, h with
  | [c0, c1, c2, c3], _ => exact ⟨c0, c1, c2, c3, rfl⟩
theorem list5 {α : Type} {cs : List α} (h : cs.length = 5) : ∃ c0 c1 c2 c3 c4, cs = [c0, c1, c2, c3, c4] := by
  match cs, h with
  | [c0, c1, c2, c3, c4], _ => exact ⟨c0, c1, c2, c3, c4, rfl⟩
theorem list9 {α : Type} {cs : List α} (h : cs.length = 9) : ∃ c0 c1 c2 c3 c4 c5 c6 c7 c8, cs = [c0, c1, c2, c3, c4, c5, c6, c7, c8] := by
  match cs, h with
  | [c0, c1, c2, c3, c4, c5, c6, c7, c8], _ => exact ⟨c0, c1, c2, c3, c4, c5, c6, c7, c8, rfl⟩
theorem array1 {α : Type} {cs : Array α} (h : cs.size = 1) : ∃ c0, cs = #[c0] := by
  obtain ⟨l⟩ := cs
  match l, h with
  | [c0], _ => exact ⟨c0, rfl⟩

section
variable {H : Type} {enc : TypeId × Value → H} {w : World} {base : Nat} {spare : Nat → Bool} {held : Bool}

theorem k_int : Tryz.prog.cellsOf 3 = 1 := by kernel_rfl
theorem k_str : Tryz.prog.cellsOf 9 = 1 := by kernel_rfl
theorem k_bool : Tryz.prog.cellsOf 4 = 1 := by kernel_rfl

theorem open_up {fuel : Nat} {cs : List Value} {x : DataW H × List MemPlace} (h : DataW.trod enc Tryz.prog w base spare held fuel 122 cs = some x) : ∃ v : UD, cs = v.cells ∧ True := by
  obtain ⟨xs, n, _, rfl, hl, hlen, hf⟩ := DataW.trod_struct Tryz.underlying122 h
  have hC : Tryz.prog.cellsOf 122 = 2 := by kernel_rfl
  obtain ⟨c0, c1, rfl⟩ := list2 (hl.trans hC)
  obtain ⟨y0, y1, rfl⟩ := list2 hlen
  have t0 : DataW.trod enc Tryz.prog w base spare held n 4 [c0] = some y0 := by simpa [k_bool] using hf 0 _ rfl
  have t1 : DataW.trod enc Tryz.prog w base spare held n 3 [c1] = some y1 := by simpa [k_int] using hf 1 _ rfl
  obtain ⟨b, e0, _⟩ := DataW.trod_bool Tryz.underlying4 t0
  obtain ⟨k, e1, _, _⟩ := DataW.trod_int Tryz.underlying3 t1
  simp only [List.cons.injEq, and_true] at e0 e1
  subst e0 e1
  exact ⟨⟨b, k⟩, rfl, trivial⟩

theorem open_val {fuel : Nat} {cs : List Value} {x : DataW H × List MemPlace} (h : DataW.trod enc Tryz.prog w base spare held fuel 117 cs = some x) : ∃ v : VD, cs = v.cells ∧ v.ok := by
  obtain ⟨y0, y1, y2, y3, y4, n, _, hl, t0, t1, t2, t3, t4⟩ := trod_struct5 Tryz.underlying117 h
  have hC : Tryz.prog.cellsOf 117 = 5 := by kernel_rfl
  have k2 : Tryz.prog.cellsOf 2 = 1 := by kernel_rfl
  have kf : Tryz.prog.cellsOf 62 = 1 := by kernel_rfl
  obtain ⟨c0, c1, c2, c3, c4, rfl⟩ := list5 (hl.trans hC)
  simp only [k_int, k2, kf, k_str, List.drop_zero, List.drop_succ_cons, List.take_succ_cons, List.take_zero] at t0 t1 t2 t3 t4
  obtain ⟨k, e0, _, wk⟩ := DataW.trod_int Tryz.underlying3 t0
  obtain ⟨n', e1, _, wn⟩ := DataW.trod_int Tryz.underlying2 t1
  obtain ⟨f, e2, _, wf⟩ := trod_float Tryz.underlying62 t2
  obtain ⟨s, e3, _, ws⟩ := DataW.trod_string Tryz.underlying9 t3
  obtain ⟨r, e4, _, wr⟩ := DataW.trod_int Tryz.underlying3 t4
  simp only [List.cons.injEq, and_true] at e0 e1 e3 e4
  subst e0 e1 e2 e3 e4
  exact ⟨⟨k, n', f, s, r⟩, rfl, by simpa [Lit.wf] using wf, ws⟩

theorem open_ins {fuel : Nat} {cs : List Value} {x : DataW H × List MemPlace} (h : DataW.trod enc Tryz.prog w base spare held fuel 125 cs = some x) : ∃ v : ID, cs = v.cells ∧ True := by
  obtain ⟨y0, y1, y2, y3, y4, n, _, hl, t0, t1, t2, t3, t4⟩ := trod_struct5 Tryz.underlying125 h
  have hC : Tryz.prog.cellsOf 125 = 5 := by kernel_rfl
  obtain ⟨c0, c1, c2, c3, c4, rfl⟩ := list5 (hl.trans hC)
  simp only [k_int, List.drop_zero, List.drop_succ_cons, List.take_succ_cons, List.take_zero] at t0 t1 t2 t3 t4
  obtain ⟨a0, e0, _, _⟩ := DataW.trod_int Tryz.underlying3 t0
  obtain ⟨a1, e1, _, _⟩ := DataW.trod_int Tryz.underlying3 t1
  obtain ⟨a2, e2, _, _⟩ := DataW.trod_int Tryz.underlying3 t2
  obtain ⟨a3, e3, _, _⟩ := DataW.trod_int Tryz.underlying3 t3
  obtain ⟨a4, e4, _, _⟩ := DataW.trod_int Tryz.underlying3 t4
  simp only [List.cons.injEq, and_true] at e0 e1 e2 e3 e4
  subst e0 e1 e2 e3 e4
  exact ⟨⟨a0, a1, a2, a3, a4⟩, rfl, trivial⟩

theorem open_nam {fuel : Nat} {cs : List Value} {x : DataW H × List MemPlace} (h : DataW.trod enc Tryz.prog w base spare held fuel 119 cs = some x) : ∃ v : ND, cs = v.cells ∧ v.s.size ≤ maxLen := by
  obtain ⟨xs, n, _, rfl, hl, hlen, hf⟩ := DataW.trod_struct Tryz.underlying119 h
  have hC : Tryz.prog.cellsOf 119 = 4 := by kernel_rfl
  obtain ⟨c0, c1, c2, c3, rfl⟩ := list4 (hl.trans hC)
  obtain ⟨y0, y1, y2, y3, rfl⟩ := list4 hlen
  have t0 : DataW.trod enc Tryz.prog w base spare held n 9 [c0] = some y0 := by simpa [k_str] using hf 0 _ rfl
  have t1 : DataW.trod enc Tryz.prog w base spare held n 3 [c1] = some y1 := by simpa [k_int] using hf 1 _ rfl
  have t2 : DataW.trod enc Tryz.prog w base spare held n 3 [c2] = some y2 := by simpa [k_int] using hf 2 _ rfl
  have t3 : DataW.trod enc Tryz.prog w base spare held n 3 [c3] = some y3 := by simpa [k_int] using hf 3 _ rfl
  obtain ⟨s, e0, _, ws⟩ := DataW.trod_string Tryz.underlying9 t0
  obtain ⟨a1, e1, _, _⟩ := DataW.trod_int Tryz.underlying3 t1
  obtain ⟨a2, e2, _, _⟩ := DataW.trod_int Tryz.underlying3 t2
  obtain ⟨a3, e3, _, _⟩ := DataW.trod_int Tryz.underlying3 t3
  simp only [List.cons.injEq, and_true] at e0 e1 e2 e3
  subst e0 e1 e2 e3
  exact ⟨⟨s, a1, a2, a3⟩, rfl, ws⟩

/-- A list that came in, by what its elements are. -/
theorem open_sl {α : Type} (x0 : α) (cells : α → List Value) (k : Nat) (P : α → Prop) (st et : TypeId) (hu : Tryz.prog.underlying st = some (.slice et)) (hk : Tryz.prog.cellsOf et = k) (hk0 : 0 < k) (hlen : ∀ x, (cells x).length = k)
    (ho : ∀ (fuel : Nat) (cs : List Value) (x : DataW H × List MemPlace), DataW.trod enc Tryz.prog w 0 spare held fuel et cs = some x → ∃ v, cs = cells v ∧ P v)
    {fuel : Nat} {sv : Value} {x : DataW H × List MemPlace} (h : DataW.trod enc Tryz.prog w 0 spare held fuel st [sv] = some x) :
    ∃ (a : Option Addr) (cap : Nat) (xs : List α), sv = .slice a xs.length cap ∧ SlA w k cells a xs ∧ (∀ v ∈ xs, P v) ∧ xs.length ≤ maxLen := by
  rcases Deep.open_slice hu h with ⟨h0, _⟩ | ⟨a, len, cap, m, n, D, Pl, h0, hb, hl, hm, hmm, hx, hi⟩
  · simp only [List.cons.injEq, and_true] at h0
    exact ⟨none, 0, [], h0, SlA.nil _ _ _ _, by simp, by simp⟩
  · simp only [List.cons.injEq, and_true] at h0
    subst h0
    rw [hk] at hi
    have hlm : len ≤ m := by rw [hmm]; split <;> omega
    by_cases hz : len = 0
    · subst hz
      exact ⟨some a, cap, [], rfl, SlA.nil _ _ _ _, by simp, by simp⟩
    · haveI : Inhabited α := ⟨x0⟩
      obtain ⟨f, hf⟩ := Deep.choose_lt (α := α) (n := len) (p := fun i p => P p ∧ ∀ j v, (cells p)[j]? = some v → w.cell? (a.add (i * k + j)) = some v) (fun i hil => by
        obtain ⟨cs, h1, h2⟩ := hi i (by omega)
        obtain ⟨p, rfl, hp⟩ := ho _ _ _ h2
        obtain ⟨_, _, h3⟩ := World.cells?_some h1
        refine ⟨p, hp, fun j v hv => ?_⟩
        have hj : j < k := by have := (List.getElem?_eq_some_iff.1 hv).1; rw [hlen] at this; exact this
        rw [← Deep.add_add, h3 j hj]; exact hv)
      have h1 : (cells (f 0))[0]? = some ((cells (f 0))[0]'(by rw [hlen]; exact hk0)) := List.getElem?_eq_getElem _
      have h00 := (hf 0 (by omega)).2 0 _ h1
      have ha : a = ⟨a.block, a.off, none⟩ := spot_none (w := w) (by simpa [Addr.add] using h00)
      have hlt' : a.block < w.heap.size := World.block_lt_of_cell? _ _ (by simpa [Addr.add] using h00)
      refine ⟨some a, cap, (List.range len).map f, ?_, ?_, ?_, ?_⟩
      · rw [List.length_map, List.length_range]
      · intro i p hip
        simp only [List.getElem?_map, Option.map_eq_some_iff] at hip
        obtain ⟨i', hi', rfl⟩ := hip
        have hil : i < len := by
          have := (List.getElem?_eq_some_iff.1 hi').1
          simpa using this
        rw [List.getElem?_range hil] at hi'
        cases hi'
        refine ⟨a.block, a.off, by rw [← ha], hlt', fun j v hv => ?_⟩
        have := (hf i hil).2 j v hv
        rw [ha, Addr.add_lit] at this
        rw [Nat.add_assoc]; exact this
      · intro p hp
        simp only [List.mem_map, List.mem_range] at hp
        obtain ⟨i, hil, rfl⟩ := hp
        exact (hf i hil).1
      · rw [List.length_map, List.length_range]; omega

theorem open_proto {fuel : Nat} {cs : List Value} {x : DataW H × List MemPlace} (h : DataW.trod enc Tryz.prog w 0 spare held fuel 60 cs = some x) : ∃ v : FC, cs = v.cells ∧ (v.lie w ∧ v.d.raw) := by
  obtain ⟨xs, n, _, rfl, hl, hlen, hf⟩ := DataW.trod_struct Tryz.underlying60 h
  have hC : Tryz.prog.cellsOf 60 = 9 := by kernel_rfl
  have k5 : Tryz.prog.cellsOf 55 = 1 := by kernel_rfl
  have k6 : Tryz.prog.cellsOf 56 = 1 := by kernel_rfl
  have k7 : Tryz.prog.cellsOf 57 = 1 := by kernel_rfl
  have k8 : Tryz.prog.cellsOf 58 = 1 := by kernel_rfl
  obtain ⟨c0, c1, c2, c3, c4, c5, c6, c7, c8, rfl⟩ := list9 (hl.trans hC)
  obtain ⟨y0, y1, y2, y3, y4, y5, y6, y7, y8, rfl⟩ := list9 hlen
  have t0 : DataW.trod enc Tryz.prog w 0 spare held n 9 [c0] = some y0 := by simpa [k_str] using hf 0 _ rfl
  have t1 : DataW.trod enc Tryz.prog w 0 spare held n 3 [c1] = some y1 := by simpa [k_int] using hf 1 _ rfl
  have t2 : DataW.trod enc Tryz.prog w 0 spare held n 3 [c2] = some y2 := by simpa [k_int] using hf 2 _ rfl
  have t3 : DataW.trod enc Tryz.prog w 0 spare held n 4 [c3] = some y3 := by simpa [k_bool] using hf 3 _ rfl
  have t4 : DataW.trod enc Tryz.prog w 0 spare held n 3 [c4] = some y4 := by simpa [k_int] using hf 4 _ rfl
  have t5 : DataW.trod enc Tryz.prog w 0 spare held n 55 [c5] = some y5 := by simpa [k5] using hf 5 _ rfl
  have t6 : DataW.trod enc Tryz.prog w 0 spare held n 56 [c6] = some y6 := by simpa [k6] using hf 6 _ rfl
  have t7 : DataW.trod enc Tryz.prog w 0 spare held n 57 [c7] = some y7 := by simpa [k7] using hf 7 _ rfl
  have t8 : DataW.trod enc Tryz.prog w 0 spare held n 58 [c8] = some y8 := by simpa [k8] using hf 8 _ rfl
  obtain ⟨s, e0, _, ws⟩ := DataW.trod_string Tryz.underlying9 t0
  obtain ⟨a1, e1, _, _⟩ := DataW.trod_int Tryz.underlying3 t1
  obtain ⟨a2, e2, _, _⟩ := DataW.trod_int Tryz.underlying3 t2
  obtain ⟨b3, e3, _⟩ := DataW.trod_bool Tryz.underlying4 t3
  obtain ⟨a4, e4, _, _⟩ := DataW.trod_int Tryz.underlying3 t4
  obtain ⟨au, cu, us, e5, s5, _, l5⟩ := open_sl (⟨false, 0⟩ : UD) UD.cells 2 (fun _ => True) 55 122 Tryz.underlying55 (by kernel_rfl) (by omega) UD.len (fun _ _ _ h => open_up h) t5
  obtain ⟨ac, cc, vs, e6, s6, o6, l6⟩ := open_sl (⟨0, 0, 0, ByteArray.empty, 0⟩ : VD) VD.cells 5 VD.ok 56 117 Tryz.underlying56 (by kernel_rfl) (by omega) VD.len (fun _ _ _ h => open_val h) t6
  obtain ⟨ai, ci, is, e7, s7, _, l7⟩ := open_sl (⟨0, 0, 0, 0, 0⟩ : ID) ID.cells 5 (fun _ => True) 57 125 Tryz.underlying57 (by kernel_rfl) (by omega) ID.len (fun _ _ _ h => open_ins h) t7
  obtain ⟨an, cn, ns, e8, s8, o8, l8⟩ := open_sl (⟨ByteArray.empty, 0, 0, 0⟩ : ND) ND.cells 4 (fun v => v.s.size ≤ maxLen) 58 119 Tryz.underlying58 (by kernel_rfl) (by omega) ND.len (fun _ _ _ h => open_nam h) t8
  simp only [List.cons.injEq, and_true] at e0 e1 e2 e3 e4
  subst e0 e1 e2 e3 e4 e5 e6 e7 e8
  exact ⟨⟨⟨s, a1, a2, b3, a4, us, vs, is, ns⟩, au, cu, ac, cc, ai, ci, an, cn⟩, rfl, ⟨s5, s6, s7, s8⟩, ⟨ws, l5, l6, l7, l8, o6, o8⟩⟩

set_option maxRecDepth 100000 in
theorem open_code {r : Reach} {b0 : Nat} {v : Value} {d : DataW H} {p : List MemPlace} (hv : Value.okWide Tryz.prog w r b0 24 v) (h : DataW.Trod enc Tryz.prog w 0 spare held 24 v d p) :
    ∃ (a : Option Addr) (cap : Nat) (xs : List FC), v = .agg #[.slice a xs.length cap] ∧ SlA w 9 FC.cells a xs ∧ (∀ x ∈ xs, x.lie w ∧ x.d.raw) ∧ xs.length ≤ maxLen := by
  obtain ⟨cs, rfl, hsz⟩ := okWide_struct Tryz.underlying24 hv
  have hC : Tryz.prog.cellsOf 24 = 1 := by kernel_rfl
  have k1 : Tryz.prog.cellsOf 22 = 1 := by kernel_rfl
  obtain ⟨c0, rfl⟩ := array1 (hsz.trans hC)
  obtain ⟨fuel, hf⟩ := h
  obtain ⟨xs, n, _, hdp, hl, hlen, hff⟩ := DataW.trod_struct Tryz.underlying24 hf
  obtain ⟨y0, rfl⟩ := list1 hlen
  have t0 : DataW.trod enc Tryz.prog w 0 spare held n 22 [c0] = some y0 := by simpa [Value.cells, k1] using hff 0 _ rfl
  obtain ⟨a, cap, fs, e, s, o, l⟩ := open_sl (⟨fd0, none, 0, none, 0, none, 0, none, 0⟩ : FC) FC.cells 9 (fun x => x.lie w ∧ x.d.raw) 22 60 Tryz.underlying22 (by kernel_rfl) (by omega) FC.len (fun _ _ _ h => open_proto h) t0
  subst e
  exact ⟨a, cap, fs, rfl, s, o, l⟩
end
end Go.Proofs.YtmicnjphlakoaaaGreatDoor
