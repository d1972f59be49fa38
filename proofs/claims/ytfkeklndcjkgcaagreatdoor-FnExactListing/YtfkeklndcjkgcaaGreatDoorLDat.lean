/-
  OWN WORK. Listings as plain lists of bytes.
-/
import Derived.Test.YtfkeklndcjkgcaaGreatDoorCDat
import Derived.Lib.ItoaNum
namespace Go.Proofs.YtfkeklndcjkgcaaGreatDoor
open Go.RowKit
set_option linter.unusedVariables false
set_option linter.unusedSimpArgs false

/-! ### What a field of the right shape can be -/
theorem ite_b {c : Prop} [Decidable c] {x y : Int × Int} (hx : -250 ≤ x.1 ∧ x.2 ≤ 1048576) (hy : -250 ≤ y.1 ∧ y.2 ≤ 1048576) : -250 ≤ (if c then x else y).1 ∧ (if c then x else y).2 ≤ 1048576 := by
  split
  · exact hx
  · exact hy
theorem lohi_b (np : Nat) (f : FD) (r : Int) (hr0 : 0 ≤ f.regs) (hr1 : f.regs ≤ 250) (hc : f.consts.length ≤ 1048576) (hu : f.ups.length ≤ 1048576) (hi : f.ins.length ≤ 1048576) (hn : np ≤ 1048576) :
    -250 ≤ (lohi np f r).1 ∧ (lohi np f r).2 ≤ 1048576 := by
  unfold lohi
  repeat' (refine ite_b ?_ ?_)
  all_goals (constructor <;> dsimp only <;> omega)
theorem fits_b {np : Nat} {f : FD} {r x : Int} (h : fitsB np f r x = true) (hr0 : 0 ≤ f.regs) (hr1 : f.regs ≤ 250) (hc : f.consts.length ≤ 1048576) (hu : f.ups.length ≤ 1048576) (hi : f.ins.length ≤ 1048576) (hn : np ≤ 1048576) :
    -250 ≤ x ∧ x ≤ 1048576 := by
  have hb := lohi_b np f r hr0 hr1 hc hu hi hn
  simp only [fitsB, inR, Bool.and_eq_true, decide_eq_true_eq] at h
  omega
/-- The fields of an instruction are small. -/
structure InsSmall (n : ID) : Prop where
  o0 : 1 ≤ n.op
  o1 : n.op ≤ 42
  a0 : -250 ≤ n.a
  a1 : n.a ≤ 1048576
  b0 : -250 ≤ n.b
  b1 : n.b ≤ 1048576
  c0 : -250 ≤ n.c
  c1 : n.c ≤ 1048576
  d0 : -250 ≤ n.d
  d1 : n.d ≤ 1048576
theorem ins_small {np : Nat} {f : FD} {q : Nat} {n : ID} (h : insB np f q n = true) (hr0 : 0 ≤ f.regs) (hr1 : f.regs ≤ 250) (hc : f.consts.length ≤ 1048576) (hu : f.ups.length ≤ 1048576) (hi : f.ins.length ≤ 1048576) (hn : np ≤ 1048576) : InsSmall n := by
  simp only [insB, fieldsB, Bool.and_eq_true] at h
  obtain ⟨⟨⟨⟨⟨h0, h1⟩, h2⟩, h3⟩, h4⟩, _⟩ := h
  have a := fits_b h1 hr0 hr1 hc hu hi hn
  have b := fits_b h2 hr0 hr1 hc hu hi hn
  have c := fits_b h3 hr0 hr1 hc hu hi hn
  have d := fits_b h4 hr0 hr1 hc hu hi hn
  simp only [inR, Bool.and_eq_true, decide_eq_true_eq] at h0
  exact ⟨h0.1, h0.2, a.1, a.2, b.1, b.2, c.1, c.2, d.1, d.2⟩

/-! ### Strings as lists of bytes -/
def sOf (l : List UInt8) : ByteArray := ⟨l.toArray⟩
theorem sOf_app (a b : List UInt8) : sOf a ++ sOf b = sOf (a ++ b) := by
  apply ByteArray.ext
  simp [sOf]
theorem sOf_size (a : List UInt8) : (sOf a).size = a.length := by simp [sOf, ByteArray.size]
theorem sOf_list (a : List UInt8) : (sOf a).data.toList = a := by simp [sOf]

/-! ### The names of instructions -/
def nameT : List (List UInt8) :=
  [[], [108, 105, 110, 101], [97, 116], [116, 105, 99, 107], [99, 111, 110, 115, 116], [109, 111, 118, 101], [98, 111, 120], [103, 101, 116], [112, 117, 116], [117, 112, 103, 101, 116], [117, 112, 112, 117, 116], [102, 110], [116, 97, 98, 108, 101], [114, 97, 119], [114, 97, 119, 97, 108, 108], [105, 110, 100, 101, 120], [115, 101, 116], [117, 110, 97, 114, 121], [98, 105, 110, 97, 114, 121], [106, 117, 109, 112], [105, 102], [117, 110, 108, 101, 115, 115], [108, 105, 115, 116], [97, 100, 100], [106, 111, 105, 110], [102, 105, 114, 115, 116], [112, 105, 99, 107], [99, 111, 112, 121], [99, 97, 108, 108], [114, 101, 116, 117, 114, 110], [116, 104, 114, 111, 119], [116, 114, 121], [101, 110, 100, 116, 114, 121], [115, 99, 111, 112, 101], [107, 101, 101, 112], [100, 101, 102, 101, 114], [108, 101, 97, 118, 101], [102, 111, 114], [102, 111, 114, 116, 101, 115, 116], [102, 111, 114, 110, 101, 120, 116], [101, 97, 99, 104], [101, 97, 99, 104, 110, 101, 120, 116], [100, 114, 111, 112]]
def nameL (op : Int) : List UInt8 := nameT.getD op.toNat []
theorem nameT_len : ∀ s ∈ nameT, s.length ≤ 10 := by decide +kernel
theorem nameL_le (op : Int) : (nameL op).length ≤ 10 := by
  unfold nameL
  rw [List.getD_eq_getElem?_getD]
  cases h : nameT[op.toNat]? with
  | none => decide
  | some s => exact nameT_len s (List.mem_of_getElem? h)

/-! ### A line, and all of them -/
def fieldL (x : Int) : List UInt8 := 32 :: Lib.itoa x
def headL (p i : Nat) (op : Int) : List UInt8 := Lib.itoa p ++ [58] ++ Lib.itoa i ++ [32] ++ nameL op
def ID.flds (n : ID) : List Int := [n.a, n.b, n.c, n.d]
def lineL (p i : Nat) (n : ID) : List UInt8 := headL p i n.op ++ n.flds.flatMap fieldL
def insL (p : Nat) : List ID → Nat → List UInt8
  | [], _ => []
  | n :: ns, i => lineL p i n ++ [10] ++ insL p ns (i + 1)
def codeL : List FD → Nat → List UInt8
  | [], _ => []
  | f :: fs, p => insL p f.ins 0 ++ codeL fs (p + 1)

theorem dec_le : ∀ (k u : Nat), u < 10 ^ (k + 1) → (Lib.decDigits u).length ≤ k + 1
  | 0, u, h => by rw [Lib.decDigits_length, Lib.nDigits_small (by omega)]; omega
  | k + 1, u, h => by
    rw [Lib.decDigits_length]
    by_cases hs : u < 10
    · rw [Lib.nDigits_small hs]; omega
    · rw [Lib.nDigits_big hs]
      have h' : u / 10 < 10 ^ (k + 1) := by rw [Nat.div_lt_iff_lt_mul (by omega)]; rw [Nat.pow_succ] at h; omega
      have := dec_le k (u / 10) h'
      rw [Lib.decDigits_length] at this
      omega
theorem itoa_le (x : Int) (h0 : -10000000 < x) (h1 : x < 10000000) : (Lib.itoa x).length ≤ 8 := by
  unfold Lib.itoa
  split
  · have := dec_le 6 x.natAbs (by simp only [show (10 : Nat) ^ (6 + 1) = 10000000 from rfl]; omega)
    simp only [List.length_cons]; omega
  · have := dec_le 6 x.toNat (by simp only [show (10 : Nat) ^ (6 + 1) = 10000000 from rfl]; omega)
    omega
theorem line_le (p i : Nat) (n : ID) (hp : p ≤ 1048576) (hi : i ≤ 1048576) (h : InsSmall n) : (lineL p i n).length ≤ 70 := by
  have e1 := itoa_le p (by omega) (by omega)
  have e2 := itoa_le i (by omega) (by omega)
  have e3 := nameL_le n.op
  have a := itoa_le n.a (by have := h.a0; omega) (by have := h.a1; omega)
  have b := itoa_le n.b (by have := h.b0; omega) (by have := h.b1; omega)
  have c := itoa_le n.c (by have := h.c0; omega) (by have := h.c1; omega)
  have d := itoa_le n.d (by have := h.d0; omega) (by have := h.d1; omega)
  simp only [lineL, headL, ID.flds, fieldL, List.flatMap_cons, List.flatMap_nil, List.length_append, List.length_cons, List.length_nil]
  omega

theorem insL_drop {p : Nat} {ns : List ID} {q : Nat} {n : ID} (h : ns[q]? = some n) : insL p (ns.drop q) q = lineL p q n ++ [10] ++ insL p (ns.drop (q + 1)) (q + 1) := by
  obtain ⟨hlt, he⟩ := List.getElem?_eq_some_iff.1 h
  rw [List.drop_eq_getElem_cons hlt, he]
  rfl
theorem codeL_drop {xs : List FC} {m : Nat} {f : FC} (h : xs[m]? = some f) : codeL ((xs.drop m).map FC.d) m = insL m f.d.ins 0 ++ codeL ((xs.drop (m + 1)).map FC.d) (m + 1) := by
  obtain ⟨hlt, he⟩ := List.getElem?_eq_some_iff.1 h
  rw [List.drop_eq_getElem_cons hlt, he]
  rfl
end Go.Proofs.YtfkeklndcjkgcaaGreatDoor
