/-
  OWN WORK. The specification's Listing.
-/
import Derived.Test.YtfkeklndcjkgcaaGreatDoorCsP
import Derived.Test.YtfkeklndcjkgcaaGreatDoorLSpB
import Derived.Test.YtfkeklndcjkgcaaGreatDoorLApp
namespace Go.Proofs.YtfkeklndcjkgcaaGreatDoor
open Go.RowKit
set_option linter.unusedVariables false
set_option linter.unusedSimpArgs false

def listV (c : List FD) : List UInt8 := if shapeV c = (0, 0, 0) then codeL c 0 else []

theorem shape_code0 {c : List FD} {p i : Int} (h : shapeV c = (0, p, i)) : p = 0 ∧ i = 0 ∧ (partsV c).1 = 0 := by
  by_cases hp : (partsV c).1 = 0
  · unfold shapeV at h
    rw [if_pos hp] at h
    unfold fnsV at h
    repeat' split at h
    all_goals first
      | (simp at h; done)
      | (simp at h; exact ⟨h.1.symm, h.2.symm, hp⟩)
  · rw [shape_parts hp] at h
    rw [h] at hp
    exact absurd rfl hp

/-- The strings that a line begins with. -/
theorem head_strs (p i : Nat) (op : Int) (hp : p ≤ 1048576) (hi : i ≤ 1048576) (h0 : 1 ≤ op) (h1 : op ≤ 42) : ∃ (S : Nat → ByteArray) (nm s1 s2 s3 s4 : ByteArray),
    (∀ (z : Nat) (W : World), z ≤ 1048576 → Calls Tryz.prog 23 #[.int .i64 (z : Int)] W fun e w' => e = .returned (.string (S z)) ∧ Below W.heap.size W w') ∧
    (∀ W : World, Calls Tryz.prog 24 #[.int .i64 op] W fun e w' => e = .returned (.string nm) ∧ Below W.heap.size W w') ∧
    S p ++ { data := #[58] } = s1 ∧ s1 ++ S i = s2 ∧ s2 ++ { data := #[32] } = s3 ∧ s3 ++ nm = s4 ∧ Hid (s4 = sOf (headL p i op)) ∧
    ¬ 9223372036854775807 < (S p).size + ({ data := #[58] } : ByteArray).size ∧ ¬ 9223372036854775807 < s1.size + (S i).size ∧ ¬ 9223372036854775807 < s2.size + ({ data := #[32] } : ByteArray).size ∧ ¬ 9223372036854775807 < s3.size + nm.size := by
  have e1 := itoa_le p (by omega) (by omega)
  have e2 := itoa_le i (by omega) (by omega)
  have e3 := nameL_le op
  refine ⟨fun z => sOf (Lib.itoa z), sOf (nameL op), sOf (Lib.itoa p ++ [58]), sOf (Lib.itoa p ++ [58] ++ Lib.itoa i), sOf (Lib.itoa p ++ [58] ++ Lib.itoa i ++ [32]), sOf (headL p i op), fun z W hz => dec_any z (by omega) (by omega) W, fun W => name_any op h0 h1 W, sOf_app _ [58], sOf_app _ _, sOf_app _ [32], sOf_app _ _, rfl, ?_, ?_, ?_, ?_⟩
  · exact not_long (b := [58]) (by simp; omega)
  · exact not_long (by simp; omega)
  · exact not_long (b := [32]) (by simp; omega)
  · exact not_long (by simp; omega)

/-- One field more. -/
theorem field_strs (l : List UInt8) (x : Int) (hl : l.length ≤ 1000) (h0 : -250 ≤ x) (h1 : x ≤ 1048576) : ∃ t0 t1 s1 : ByteArray,
    (∀ W : World, Calls Tryz.prog 23 #[.int .i64 x] W fun e w' => e = .returned (.string t0) ∧ Below W.heap.size W w') ∧
    { data := #[32] } ++ t0 = t1 ∧ sOf l ++ t1 = s1 ∧ Hid (s1 = sOf (l ++ fieldL x)) ∧
    ¬ 9223372036854775807 < ({ data := #[32] } : ByteArray).size + t0.size ∧ ¬ 9223372036854775807 < (sOf l).size + t1.size := by
  have e1 := itoa_le x (by omega) (by omega)
  refine ⟨sOf (Lib.itoa x), sOf (fieldL x), sOf (l ++ fieldL x), fun W => dec_any x (by omega) (by omega) W, sOf_app [32] _, sOf_app _ _, rfl, ?_, ?_⟩
  · exact not_long (a := [32]) (by simp; omega)
  · exact not_long (by simp [fieldL]; omega)

theorem headL_le (p i : Nat) (op : Int) (hp : p ≤ 1048576) (hi : i ≤ 1048576) : (headL p i op).length ≤ 30 := by
  have e1 := itoa_le p (by omega) (by omega)
  have e2 := itoa_le i (by omega) (by omega)
  have e3 := nameL_le op
  simp [headL]; omega
theorem fld_small {n : ID} (h : InsSmall n) (k : Nat) (hk : k < 4) : ∃ x, n.flds[k]? = some x ∧ fv n k = x ∧ -250 ≤ x ∧ x ≤ 1048576 := by
  match k, hk with
  | 0, _ => exact ⟨n.a, rfl, rfl, h.a0, h.a1⟩
  | 1, _ => exact ⟨n.b, rfl, rfl, h.b0, h.b1⟩
  | 2, _ => exact ⟨n.c, rfl, rfl, h.c0, h.c1⟩
  | 3, _ => exact ⟨n.d, rfl, rfl, h.d0, h.d1⟩
theorem flat_le {n : ID} (h : InsSmall n) (k : Nat) : ((n.flds.take k).flatMap fieldL).length ≤ 40 := by
  have hs : ((n.flds.take k).flatMap fieldL).length ≤ (n.flds.flatMap fieldL).length := by
    conv => rhs; rw [← List.take_append_drop k n.flds, List.flatMap_append, List.length_append]
    omega
  have a := itoa_le n.a (by have := h.a0; omega) (by have := h.a1; omega)
  have b := itoa_le n.b (by have := h.b0; omega) (by have := h.b1; omega)
  have c := itoa_le n.c (by have := h.c0; omega) (by have := h.c1; omega)
  have d := itoa_le n.d (by have := h.d0; omega) (by have := h.d1; omega)
  have ht : (n.flds.flatMap fieldL).length ≤ 36 := by
    simp only [ID.flds, fieldL, List.flatMap_cons, List.flatMap_nil, List.length_append, List.length_cons, List.length_nil]; omega
  omega
theorem insL_le (p : Nat) (hp : p ≤ 1048576) : ∀ (ns : List ID) (i : Nat), i + ns.length ≤ 1048576 → (∀ n ∈ ns, InsSmall n) → (insL p ns i).length ≤ 71 * ns.length
  | [], i, _, _ => by simp [insL]
  | n :: ns, i, hi, h => by
    simp only [List.length_cons] at hi
    have h1 := line_le p i n hp (by omega) (h n (by simp))
    have h2 := insL_le p hp ns (i + 1) (by omega) (fun x hx => h x (by simp [hx]))
    simp only [insL, List.length_append, List.length_cons, List.length_nil]
    omega
theorem codeL_le : ∀ (fs : List FD) (p : Nat), p + fs.length ≤ 1048576 → (∀ f ∈ fs, f.ins.length ≤ 1048576 ∧ ∀ n ∈ f.ins, InsSmall n) → (codeL fs p).length ≤ 71 * (fs.map fun f => f.ins.length).sum
  | [], p, _, _ => by simp [codeL]
  | f :: fs, p, hp, h => by
    simp only [List.length_cons] at hp
    have h1 := insL_le p (by omega) f.ins 0 (by have := (h f (by simp)).1; omega) (h f (by simp)).2
    have h2 := codeL_le fs (p + 1) (by omega) (fun x hx => h x (by simp [hx]))
    simp only [codeL, List.length_append, List.map_cons, List.sum_cons]
    omega

/-- A code of the right shape has a short listing, its instructions small fields. -/
theorem small_of {w : World} {a : Option Addr} {xs : List FC} (H : CodeAt w a xs) (h0 : (partsV (xs.map FC.d)).1 = 0) :
    (∀ f ∈ xs.map FC.d, ∀ n ∈ f.ins, InsSmall n) ∧ (codeL (xs.map FC.d) 0).length ≤ 80000000 := by
  obtain ⟨_, h2, _, _, h5⟩ := parts_ok h0
  have hs : ∀ f ∈ xs.map FC.d, ∀ n ∈ f.ins, InsSmall n := by
    intro f hf n hn
    obtain ⟨p, hp⟩ := List.getElem?_of_mem hf
    obtain ⟨q, hq⟩ := List.getElem?_of_mem hn
    obtain ⟨hr0, hr1⟩ := regs_of h2 hp
    obtain ⟨x, hx, rfl⟩ := List.mem_map.1 hf
    have ok := H.ok x hx
    exact ins_small (ins_ok h5 hp hq) hr0 hr1 ok.lc ok.lu ok.li (by rw [List.length_map]; exact H.len)
  refine ⟨hs, ?_⟩
  have h1 := codeL_le (xs.map FC.d) 0 (by rw [List.length_map]; have := H.len; omega) (fun f hf => ⟨by obtain ⟨x, hx, rfl⟩ := List.mem_map.1 hf; exact (H.ok x hx).li, hs f hf⟩)
  have h2 := H.all
  rw [List.map_map] at h1
  have he : (xs.map ((fun f : FD => f.ins.length) ∘ FC.d)).sum = (xs.map fun x => x.d.ins.length).sum := rfl
  rw [he] at h1
  omega
end Go.Proofs.YtfkeklndcjkgcaaGreatDoor
