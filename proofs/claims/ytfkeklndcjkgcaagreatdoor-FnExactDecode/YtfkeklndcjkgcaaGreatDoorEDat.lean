/-
  OWN WORK. Images as plain lists of bytes.
-/
import Derived.Test.YtfkeklndcjkgcaaGreatDoorCDat
namespace Go.Proofs.YtfkeklndcjkgcaaGreatDoor
open Go.RowKit
set_option linter.unusedVariables false
set_option linter.unusedSimpArgs false

/-- A number with its sign as the lowest bit. -/
def zig (n : Int) : Nat := (if n < 0 then 18446744073709551615 - (2 * n) % 18446744073709551616 else (2 * n) % 18446744073709551616).toNat
theorem zig_lt (n : Int) : zig n < 18446744073709551616 := by unfold zig; split <;> omega

/-- Groups of seven bits, the lowest first. -/
def grpN : Nat → Nat → List UInt8
  | 0, u => [UInt8.ofNat u]
  | k + 1, u => if u < 128 then [UInt8.ofNat u] else UInt8.ofNat (u % 128 + 128) :: grpN k (u / 128)
theorem grpN_more : ∀ (k u : Nat), u < 128 ^ (k + 1) → grpN (k + 1) u = grpN k u
  | 0, u, h => by
    show (if u < 128 then _ else _) = _
    rw [if_pos (by omega)]
    rfl
  | k + 1, u, h => by
    show (if u < 128 then _ else _ :: grpN (k + 1) (u / 128)) = (if u < 128 then _ else _ :: grpN k (u / 128))
    rw [grpN_more k (u / 128) (by rw [Nat.div_lt_iff_lt_mul (by omega)]; rw [Nat.pow_succ] at h; omega)]
theorem grpN_le : ∀ (k u : Nat), (grpN k u).length ≤ k + 1
  | 0, u => by simp [grpN]
  | k + 1, u => by
    unfold grpN
    split
    · simp
    · have := grpN_le k (u / 128)
      simp only [List.length_cons]; omega
def grp (u : Nat) : List UInt8 := grpN 9 u
theorem grp_small {u : Nat} (h : u < 128) : grp u = [UInt8.ofNat u] := by unfold grp grpN; rw [if_pos h]
theorem grp_big {u : Nat} (h : ¬ u < 128) (hu : u < 18446744073709551616) : grp u = UInt8.ofNat (u % 128 + 128) :: grp (u / 128) := by
  show (if u < 128 then _ else _ :: grpN 8 (u / 128)) = _ :: grpN 9 (u / 128)
  rw [if_neg h, grpN_more 8 (u / 128) (Nat.lt_of_lt_of_le (show u / 128 < 9223372036854775808 by omega) (by decide))]
def numL (n : Int) : List UInt8 := grp (zig n)
theorem numL_le (n : Int) : (numL n).length ≤ 10 := grpN_le 9 _

def textL (s : ByteArray) : List UInt8 := numL (s.size : Int) ++ s.data.toList
theorem textL_le (s : ByteArray) : (textL s).length ≤ 10 + s.size := by
  have := numL_le (s.size : Int)
  simp only [textL, List.length_append, Array.length_toList]
  have e : s.data.size = s.size := rfl
  omega
def flagL (b : Bool) : List UInt8 := [if b then 1 else 0]
/-- The eight bytes of a float's bits, the highest first. -/
def byteI (f : Nat) (i : Nat) : UInt8 := UInt8.ofNat (f / 2 ^ (56 - 8 * i))
def bitsL (f : Nat) : List UInt8 := (List.range 8).map (byteI f)
def constL (v : VD) : List UInt8 :=
  UInt8.ofNat v.k.toNat ::
    (if v.k = 1 ∨ v.k = 2 ∨ v.k = 8 then numL v.n else if v.k = 4 then textL v.s else if v.k = 3 then bitsL v.f else [])
def upL (u : UD) : List UInt8 := flagL u.l ++ numL u.i
def stepL (n : ID) : List UInt8 := numL n.op ++ (numL n.a ++ (numL n.b ++ (numL n.c ++ numL n.d)))
def namedL (n : ND) : List UInt8 := textL n.s ++ (numL n.reg ++ (numL n.fr ++ numL n.to))
def headE (f : FD) : List UInt8 := textL f.name ++ (numL f.line ++ (numL f.params ++ (flagL f.rest ++ numL f.regs)))
def listL {α : Type} (e : α → List UInt8) (xs : List α) : List UInt8 := numL (xs.length : Int) ++ xs.flatMap e
def protoL (f : FD) : List UInt8 := headE f ++ (listL upL f.ups ++ (listL constL f.consts ++ (listL stepL f.ins ++ listL namedL f.named)))
def imageL (c : List FD) : List UInt8 := [72, 67, 1] ++ listL protoL c
/-- What Encode answers. -/
def encV (c : List FD) : List UInt8 := if shapeV c = (0, 0, 0) ∧ (imageL c).length ≤ 1000000 then imageL c else []

theorem flatMap_take {α : Type} (e : α → List UInt8) {xs : List α} {m : Nat} {x : α} (h : xs[m]? = some x) : (xs.take (m + 1)).flatMap e = (xs.take m).flatMap e ++ e x := by
  rw [List.take_add_one, h]; simp
theorem flatMap_drop {α : Type} (e : α → List UInt8) {xs : List α} {m : Nat} {x : α} (h : xs[m]? = some x) : (xs.drop m).flatMap e = e x ++ (xs.drop (m + 1)).flatMap e := by
  obtain ⟨hlt, he⟩ := List.getElem?_eq_some_iff.1 h
  rw [List.drop_eq_getElem_cons hlt, he]; simp
theorem fdrop_end {α : Type} {xs : List α} {m : Nat} (h : xs.length ≤ m) (e : α → List UInt8) : (xs.drop m).flatMap e = [] := by
  rw [List.drop_of_length_le h]; rfl

/-! ### How long an image is -/
theorem flat_le {α : Type} (e : α → List UInt8) (k : Nat) : ∀ (xs : List α), (∀ x ∈ xs, (e x).length ≤ k) → (xs.flatMap e).length ≤ xs.length * k
  | [], _ => by simp
  | x :: xs, h => by
    have h1 := h x (by simp)
    have h2 := flat_le e k xs (fun y hy => h y (by simp [hy]))
    simp only [List.flatMap_cons, List.length_append, List.length_cons, Nat.add_mul, Nat.one_mul]
    omega
/-- A const of the right shape. -/
structure CSm (v : VD) : Prop where
  k : v.k = 0 ∨ v.k = 1 ∨ v.k = 2 ∨ v.k = 3 ∨ v.k = 4 ∨ v.k = 8
  s : v.k = 4 → v.s.size ≤ 4000
  f : v.f < 18446744073709551616
  nan : v.k = 3 → nanB v.f = false
/-- A proto of the right shape. -/
structure FSm (f : FD) : Prop where
  name : f.name.size ≤ 40
  lu : f.ups.length ≤ 250
  lc : f.consts.length ≤ 500
  li : f.ins.length ≤ 6000
  ln : f.named.length ≤ 500
  c : ∀ v ∈ f.consts, CSm v
  n : ∀ v ∈ f.named, v.s.size ≤ 40
theorem constL_le {v : VD} (h : CSm v) : (constL v).length ≤ 4011 := by
  have h1 := numL_le v.n
  have h2 := textL_le v.s
  unfold constL
  simp only [List.length_cons]
  split
  · omega
  · split
    · rename_i h4
      have h3 := h.s h4
      omega
    · split
      · simp [bitsL]
      · simp
theorem upL_le (u : UD) : (upL u).length ≤ 11 := by
  have := numL_le u.i
  simp [upL, flagL]; omega
theorem stepL_le (n : ID) : (stepL n).length ≤ 50 := by
  have h1 := numL_le n.op
  have h2 := numL_le n.a
  have h3 := numL_le n.b
  have h4 := numL_le n.c
  have h5 := numL_le n.d
  simp [stepL]; omega
theorem namedL_le {n : ND} (h : n.s.size ≤ 40) : (namedL n).length ≤ 80 := by
  have h1 := textL_le n.s
  have h2 := numL_le n.reg
  have h3 := numL_le n.fr
  have h4 := numL_le n.to
  simp [namedL]; omega
theorem protoL_le {f : FD} (h : FSm f) : (protoL f).length ≤ 3000000 := by
  have a1 := textL_le f.name
  have a2 := numL_le f.line
  have a3 := numL_le f.params
  have a4 := numL_le f.regs
  have b1 := numL_le (f.ups.length : Int)
  have b2 := numL_le (f.consts.length : Int)
  have b3 := numL_le (f.ins.length : Int)
  have b4 := numL_le (f.named.length : Int)
  have c1 := flat_le upL 11 f.ups (fun u _ => upL_le u)
  have c2 := flat_le constL 4011 f.consts (fun v hv => constL_le (h.c v hv))
  have c3 := flat_le stepL 50 f.ins (fun u _ => stepL_le u)
  have c4 := flat_le namedL 80 f.named (fun v hv => namedL_le (h.n v hv))
  have d0 := h.name
  have d1 := h.lu
  have d2 := h.lc
  have d3 := h.li
  have d4 := h.ln
  simp only [protoL, headE, listL, flagL, List.length_append, List.length_cons, List.length_nil]
  omega
end Go.Proofs.YtfkeklndcjkgcaaGreatDoor
