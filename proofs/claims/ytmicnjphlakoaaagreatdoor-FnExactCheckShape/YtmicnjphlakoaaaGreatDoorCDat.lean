/-
  OWN WORK. Codes as data: what lies in memory; the first fault of a shape, as a plain function.
-/
import Derived.Test.YtmicnjphlakoaaaGreatDoorTerm
namespace Go.Proofs.YtmicnjphlakoaaaGreatDoor
open Go.RowKit
set_option linter.unusedVariables false

/-- A value of the document, as data. -/
structure VD where
  k : Int
  n : Int
  f : Nat
  s : ByteArray
  r : Int
def VD.ok (v : VD) : Prop := v.f < 18446744073709551616 ∧ v.s.size ≤ maxLen
def VD.cells (v : VD) : List Value := [.int .i64 v.k, .int .i64 v.n, .float .f64 v.f, .string v.s, .int .i64 v.r]

structure UD where
  l : Bool
  i : Int
def UD.cells (u : UD) : List Value := [.bool u.l, .int .i64 u.i]

structure ID where
  op : Int
  a : Int
  b : Int
  c : Int
  d : Int
def ID.cells (n : ID) : List Value := [.int .i64 n.op, .int .i64 n.a, .int .i64 n.b, .int .i64 n.c, .int .i64 n.d]

structure ND where
  s : ByteArray
  reg : Int
  fr : Int
  to : Int
def ND.cells (n : ND) : List Value := [.string n.s, .int .i64 n.reg, .int .i64 n.fr, .int .i64 n.to]

/-- A proto, as data. -/
structure FD where
  name : ByteArray
  line : Int
  params : Int
  rest : Bool
  regs : Int
  ups : List UD
  consts : List VD
  ins : List ID
  named : List ND

/-- A proto in memory: its data, and where its lists lie. -/
structure FC where
  d : FD
  au : Option Addr
  cu : Nat
  ac : Option Addr
  cc : Nat
  ai : Option Addr
  ci : Nat
  an : Option Addr
  cn : Nat
def FC.cells (x : FC) : List Value := [.string x.d.name, .int .i64 x.d.line, .int .i64 x.d.params, .bool x.d.rest, .int .i64 x.d.regs, .slice x.au x.d.ups.length x.cu, .slice x.ac x.d.consts.length x.cc, .slice x.ai x.d.ins.length x.ci, .slice x.an x.d.named.length x.cn]

/-- A list lies in memory, each element as so many cells; nothing is said of where an empty one lies. -/
def SlA {α : Type} (w : World) (k : Nat) (cells : α → List Value) (a : Option Addr) (xs : List α) : Prop :=
  ∀ i x, xs[i]? = some x → ∃ b off, a = some ⟨b, off, none⟩ ∧ b < w.heap.size ∧ ∀ j v, (cells x)[j]? = some v → w.cell? ⟨b, off + i * k + j, none⟩ = some v

theorem SlA.later {α : Type} {w wx : World} {k : Nat} {cells : α → List Value} {a : Option Addr} {xs : List α} (hb : Below w.heap.size w wx) (h : SlA w k cells a xs) : SlA wx k cells a xs := by
  intro i x hi
  obtain ⟨b, off, h1, h2, h3⟩ := h i x hi
  exact ⟨b, off, h1, Nat.lt_of_lt_of_le h2 hb.size, fun j v hv => cell_later hb (h3 j v hv)⟩
theorem SlA.nil {α : Type} (w : World) (k : Nat) (cells : α → List Value) (a : Option Addr) : SlA w k cells a [] := fun i x h => by simp at h

/-- What is known of a proto's data. -/
structure FD.ok (f : FD) : Prop where
  name : f.name.size ≤ maxLen
  lu : f.ups.length ≤ 1048576
  lc : f.consts.length ≤ 1048576
  li : f.ins.length ≤ 1048576
  ln : f.named.length ≤ 1048576
  c : ∀ v ∈ f.consts, v.ok
  n : ∀ v ∈ f.named, v.s.size ≤ maxLen
/-- A proto's lists lie in memory. -/
structure FC.lie (w : World) (x : FC) : Prop where
  u : SlA w 2 UD.cells x.au x.d.ups
  c : SlA w 5 VD.cells x.ac x.d.consts
  i : SlA w 5 ID.cells x.ai x.d.ins
  n : SlA w 4 ND.cells x.an x.d.named
theorem FC.lie.later {w wx : World} {x : FC} (hb : Below w.heap.size w wx) (h : x.lie w) : x.lie wx := ⟨h.u.later hb, h.c.later hb, h.i.later hb, h.n.later hb⟩

/-- A code in memory. -/
structure CodeAt (w : World) (a : Option Addr) (xs : List FC) : Prop where
  row : SlA w 9 FC.cells a xs
  lie : ∀ x ∈ xs, x.lie w
  ok : ∀ x ∈ xs, x.d.ok
  len : xs.length ≤ 1048576
  all : (xs.map fun x => x.d.ins.length).sum ≤ 1048576
theorem CodeAt.later {w wx : World} {a : Option Addr} {xs : List FC} (hb : Below w.heap.size w wx) (h : CodeAt w a xs) : CodeAt wx a xs := ⟨h.row.later hb, fun x hx => (h.lie x hx).later hb, h.ok, h.len, h.all⟩

/-! ### The first fault of a shape -/

def inR (x lo hi : Int) : Bool := decide (lo ≤ x) && decide (x ≤ hi)

def headB (p : Nat) (f : FD) : Bool :=
  decide ((f.name.size : Int) ≤ 40) && inR f.line 0 100000 && inR f.regs 0 250 && inR f.params 0 (if f.rest then f.regs - 1 else f.regs) &&
    decide ((f.ups.length : Int) ≤ 250) && decide ((f.consts.length : Int) ≤ 500) && (!(p == 0) || (f.params == 0 && (f.ups.length : Int) == 0))

def nanB (f : Nat) : Bool := !(FloatKind.f64.format.order f f == some .eq)

def constB (v : VD) : Bool := vok v.k v.n v.f v.s v.r && !(v.k == 5 || v.k == 6 || v.k == 7) && (if v.k = 3 then !nanB v.f else decide (v.f = 0))

def namedB (f : FD) (i : Nat) (n : ND) : Bool :=
  decide ((i : Int) < 500) && inR n.s.size 1 40 && inR n.reg 0 (f.regs - 1) && decide (0 ≤ n.fr) && decide (n.fr ≤ n.to) && decide (n.to ≤ (f.ins.length : Int))

/-- What the fields of an operation are. -/
def roleT : List (List Int) :=
  [[], [11, 0, 0, 0], [12, 0, 0, 0], [0, 0, 0, 0], [1, 7, 0, 0], [1, 2, 0, 0], [1, 2, 0, 0], [1, 5, 0, 0], [5, 2, 0, 0], [1, 8, 0, 0], [8, 2, 0, 0], [1, 9, 0, 0],
   [1, 0, 0, 0], [4, 2, 2, 0], [4, 2, 3, 0], [1, 2, 2, 0], [2, 2, 2, 0], [1, 15, 2, 0], [1, 16, 2, 2], [10, 0, 0, 0], [2, 10, 0, 0], [2, 10, 0, 0],
   [1, 0, 0, 0], [6, 2, 0, 0], [6, 3, 0, 0], [1, 3, 0, 0], [1, 6, 17, 0], [1, 6, 0, 0], [1, 2, 3, 0], [3, 0, 0, 0], [2, 0, 0, 0], [10, 14, 0, 0],
   [0, 0, 0, 0], [13, 0, 0, 0], [13, 0, 0, 0], [2, 3, 0, 0], [0, 0, 0, 0], [18, 0, 0, 0], [18, 10, 0, 0], [18, 10, 0, 0], [19, 0, 0, 0], [20, 10, 1, 0], [21, 0, 0, 0]]
def rolesL (op : Int) : List Int := if 1 ≤ op ∧ op ≤ 42 then roleT.getD op.toNat [] else []

/-- Between which numbers a field must lie. -/
def lohi (np : Nat) (f : FD) (role : Int) : Int × Int :=
  if role = 0 then (0, 0)
  else if role = 1 ∨ role = 4 ∨ role = 5 ∨ role = 6 ∨ role = 21 then (0, f.regs - 1)
  else if role = 2 ∨ role = 3 then (-f.regs, f.regs - 1)
  else if role = 7 then (0, (f.consts.length : Int) - 1)
  else if role = 8 then (0, (f.ups.length : Int) - 1)
  else if role = 9 then (0, (np : Int) - 1)
  else if role = 10 then (0, (f.ins.length : Int) - 1)
  else if role = 11 then (1, 100000)
  else if role = 12 then (0, 100000)
  else if role = 13 then (0, f.regs)
  else if role = 14 then (0, f.regs - 2)
  else if role = 15 then (19, 22)
  else if role = 16 then (1, 18)
  else if role = 17 then (0, 250)
  else if role = 18 then (0, f.regs - 3)
  else (0, f.regs - 2)
def fitsB (np : Nat) (f : FD) (role x : Int) : Bool := inR x (lohi np f role).1 (lohi np f role).2

def rl (op : Int) (k : Nat) : Int := (rolesL op).getD k 0
def fieldsB (np : Nat) (f : FD) (n : ID) : Bool := inR n.op 1 42 && fitsB np f (rl n.op 0) n.a && fitsB np f (rl n.op 1) n.b && fitsB np f (rl n.op 2) n.c && fitsB np f (rl n.op 3) n.d
def endsB (op : Int) : Bool := op == 19 || op == 29 || op == 30
def insB (np : Nat) (f : FD) (i : Nat) (n : ID) : Bool := fieldsB np f n && (!(i + 1 == f.ins.length) || endsB n.op)

def upB (m : FD) (u : UD) : Bool := if u.l then inR u.i 0 (m.regs - 1) else inR u.i 0 ((m.ups.length : Int) - 1)
def upsB (m : FD) (us : List UD) : Bool := us.all (upB m)

/-- The first element that is not as it should be. -/
def ff {α : Type} (ok : Nat → α → Bool) : List α → Nat → Option Nat
  | [], _ => none
  | x :: xs, i => if ok i x = true then ff ok xs (i + 1) else some i
/-- The first proto with a fault. -/
def fp (inner : Nat → FD → Option Nat) : List FD → Nat → Option (Nat × Nat)
  | [], _ => none
  | f :: fs, p => match inner p f with
    | some i => some (p, i)
    | none => fp inner fs (p + 1)

def hd0 (p : Nat) (f : FD) : Option Nat := if headB p f = true then none else some 0
def co0 (_ : Nat) (f : FD) : Option Nat := ff (fun _ => constB) f.consts 0
def na0 (_ : Nat) (f : FD) : Option Nat := ff (namedB f) f.named 0
def in0 (np : Nat) (_ : Nat) (f : FD) : Option Nat := if f.ins.length = 0 then some 0 else ff (insB np f) f.ins 0

def fd0 : FD := ⟨ByteArray.empty, 0, 0, false, 0, [], [], [], []⟩
/-- One instruction that makes a fn. -/
def fnB (c : List FD) (p : Nat) (f : FD) (n : ID) (made : List Bool) : Bool := !(decide (n.b ≤ p) || made.getD n.b.toNat false || !upsB f (c.getD n.b.toNat fd0).ups)
def f6i (c : List FD) (p : Nat) (f : FD) : List ID → Nat → List Bool → Option Nat × List Bool
  | [], _, made => (none, made)
  | n :: ns, i, made => if n.op = 11 then (if fnB c p f n made = true then f6i c p f ns (i + 1) (made.set n.b.toNat true) else (some i, made)) else f6i c p f ns (i + 1) made
def f6 (c : List FD) : List FD → Nat → List Bool → Option (Nat × Nat) × List Bool
  | [], _, made => (none, made)
  | f :: fs, p, made => match f6i c p f f.ins 0 made with
    | (some i, m) => (some (p, i), m)
    | (none, m) => f6 c fs (p + 1) m

def total (c : List FD) : Nat := (c.map fun f => f.ins.length).sum

/-- A fault: its code, the proto, At. -/
abbrev F3 := Int × Int × Int
def partsV (c : List FD) : F3 :=
  if c.length = 0 ∨ 200 < c.length ∨ 6000 < total c then (1, 0, 0) else
  match fp hd0 c 0 with
  | some (p, i) => (2, p, i)
  | none => match fp co0 c 0 with
    | some (p, i) => (3, p, i)
    | none => match fp na0 c 0 with
      | some (p, i) => (4, p, i)
      | none => match fp (in0 c.length) c 0 with
        | some (p, i) => (5, p, i)
        | none => (0, 0, 0)
def fnsV (c : List FD) : F3 :=
  match f6 c c 0 (List.replicate c.length false) with
  | (some (p, i), _) => (6, p, i)
  | (none, made) => match ff (fun _ b => b) (made.drop 1) 1 with
    | some p => (7, p, 0)
    | none => (0, 0, 0)
def shapeV (c : List FD) : F3 := if (partsV c).1 = 0 then fnsV c else partsV c

/-! ### What is known once the parts are right -/
theorem ff_drop {α : Type} (ok : Nat → α → Bool) {xs : List α} {i : Nat} {x : α} (h : xs[i]? = some x) : ff ok (xs.drop i) i = if ok i x = true then ff ok (xs.drop (i + 1)) (i + 1) else some i := by
  obtain ⟨hlt, he⟩ := List.getElem?_eq_some_iff.1 h
  rw [List.drop_eq_getElem_cons hlt, he]
  rfl
theorem fp_drop (inner : Nat → FD → Option Nat) {xs : List FC} {i : Nat} {x : FC} (h : xs[i]? = some x) : fp inner ((xs.drop i).map FC.d) i = match inner i x.d with
    | some j => some (i, j)
    | none => fp inner ((xs.drop (i + 1)).map FC.d) (i + 1) := by
  obtain ⟨hlt, he⟩ := List.getElem?_eq_some_iff.1 h
  rw [List.drop_eq_getElem_cons hlt, he]
  rfl
theorem ff_none {α : Type} {ok : Nat → α → Bool} : ∀ {xs : List α} {i : Nat}, ff ok xs i = none → ∀ j x, xs[j]? = some x → ok (i + j) x = true
  | [], i, _, j, x, hx => by simp at hx
  | y :: ys, i, h, j, x, hx => by
    unfold ff at h
    split at h
    · rename_i hy
      cases j with
      | zero => simp at hx; subst hx; exact hy
      | succ j =>
        have := ff_none h j x (by simpa using hx)
        rw [show i + (j + 1) = i + 1 + j by omega]; exact this
    · cases h
theorem fp_none {inner : Nat → FD → Option Nat} : ∀ {fs : List FD} {p : Nat}, fp inner fs p = none → ∀ j f, fs[j]? = some f → inner (p + j) f = none
  | [], p, _, j, f, hf => by simp at hf
  | g :: gs, p, h, j, f, hf => by
    unfold fp at h
    split at h
    · cases h
    · rename_i hg
      cases j with
      | zero => simp at hf; subst hf; exact hg
      | succ j =>
        have := fp_none h j f (by simpa using hf)
        rw [show p + (j + 1) = p + 1 + j by omega]; exact this
end Go.Proofs.YtmicnjphlakoaaaGreatDoor
