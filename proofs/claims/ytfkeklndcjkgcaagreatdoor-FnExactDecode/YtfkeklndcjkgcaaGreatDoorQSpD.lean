/-
  OWN WORK. The specification's reader: protos.
-/
import Derived.Test.YtfkeklndcjkgcaaGreatDoorQsB
import Derived.Deep.DeepCutAuto
import Derived.Deep.LoopGhost
namespace Go.Proofs.YtfkeklndcjkgcaaGreatDoor
open Go.RowKit
attribute [local go_sem] run_store_float
set_option linter.unusedVariables false
set_option linter.unusedSimpArgs false

/-- A proto that an image may hold. -/
structure FOk (x : FD) : Prop where
  line : I64 x.line
  params : I64 x.params
  regs : I64 x.regs
  ups : ∀ u ∈ x.ups, I64 u.i
  consts : ∀ v ∈ x.consts, COk v
  ins : ∀ y ∈ x.ins, I64 y.op ∧ I64 y.a ∧ I64 y.b ∧ I64 y.c ∧ I64 y.d
  named : ∀ y ∈ x.named, I64 y.reg ∧ I64 y.fr ∧ I64 y.to
def R9 (x : FD) : List UInt8 := []
def R8 (x : FD) : List UInt8 := listL namedL x.named ++ R9 x
def R7 (x : FD) : List UInt8 := listL stepL x.ins ++ R8 x
def R6 (x : FD) : List UInt8 := listL constL x.consts ++ R7 x
def R5 (x : FD) : List UInt8 := listL upL x.ups ++ R6 x
theorem proto_R (x : FD) (r0 : List UInt8) : protoL x ++ r0 = textL x.name ++ (numL x.line ++ (numL x.params ++ (flagL x.rest ++ (numL x.regs ++ (R5 x ++ r0))))) := by
  simp [protoL, headE, R5, R6, R7, R8, R9, List.append_assoc]
/-- What is known of a proto that was read. -/
structure DI (n : Nat) (d : FD) : Prop where
  name : d.name.size ≤ n
  line : I64 d.line
  params : I64 d.params
  regs : I64 d.regs
  ups : ∀ u ∈ d.ups, I64 u.i
  consts : ∀ v ∈ d.consts, I64 v.n ∧ v.f < 18446744073709551616 ∧ v.s.size ≤ n
  ins : ∀ y ∈ d.ins, I64 y.op ∧ I64 y.a ∧ I64 y.b ∧ I64 y.c ∧ I64 y.d
  named : ∀ y ∈ d.named, y.s.size ≤ n ∧ I64 y.reg ∧ I64 y.fr ∧ I64 y.to
  lu : d.ups.length ≤ 1000000
  lc : d.consts.length ≤ 1000000
  li : d.ins.length ≤ 1000000
  ln : d.named.length ≤ 1000000
def hd5 (x : FD) : FD := ⟨x.name, x.line, x.params, x.rest, x.regs, [], [], [], []⟩
def hd6 (x : FD) : FD := { hd5 x with ups := x.ups }
def hd7 (x : FD) : FD := { hd6 x with consts := x.consts }
def hd8 (x : FD) : FD := { hd7 x with ins := x.ins }
def hd9 (x : FD) : FD := { hd8 x with named := x.named }
theorem flat_ge {α : Type} (e : α → List UInt8) (h : ∀ x, 1 ≤ (e x).length) : ∀ xs : List α, xs.length ≤ (xs.flatMap e).length
  | [] => by simp
  | x :: xs => by
    have h1 := h x
    have h2 := flat_ge e h xs
    simp only [List.flatMap_cons, List.length_append, List.length_cons]; omega
theorem numL_ge (z : Int) : 1 ≤ (numL z).length := by
  show 1 ≤ (grpN 9 (zig z)).length
  unfold grpN
  split <;> simp
theorem ORow.none {α : Type} {w : World} {B : Nat} {et : TypeId} {k : Nat} {cells : α → List Value} {xs : List α} (h : ORow w B et k cells (.slice none 0 0) xs) : xs = [] := by
  obtain ⟨a, cap, h1⟩ := h.val
  cases hx : xs with
  | nil => rfl
  | cons x ys => rw [hx] at h1; simp at h1
theorem flag_at {bs r0 : List UInt8} {p : Nat} {b : Bool} {c p' : Nat} {bd bd' : Bool} (hd : bs.drop p = flagL b ++ r0) (hq : ∀ u, bs[p]? = some u → c = u.toNat ∧ p' = p + 1 ∧ bd' = bd) : ((c : Int) != 0) = b ∧ bs.drop p' = r0 ∧ bd' = bd := by
  obtain ⟨h1, h2⟩ := drop_head (show bs.drop p = (if b then 1 else 0) :: r0 from hd)
  obtain ⟨h3, h4, h5⟩ := hq _ h1
  refine ⟨?_, by rw [h4]; exact h2, h5⟩
  rw [h3]
  cases b <;> rfl

theorem PW.start {w : World} {g : Nat} {a : Option Addr} {n cap p : Nat} {bd : Bool} (h : RS w g a n cap p bd) : PW w g a n cap w.heap.size (w.heap.size + 1) fdZ (.slice none 0 0) (.slice none 0 0) (.slice none 0 0) (.slice none 0 0) p bd ((w.alloc (POn fdZ (.slice none 0 0) (.slice none 0 0) (.slice none 0 0) (.slice none 0 0))).alloc (POn fdZ (.slice none 0 0) (.slice none 0 0) (.slice none 0 0) (.slice none 0 0))) := by
  have hy := bw2 w (POn fdZ (.slice none 0 0) (.slice none 0 0) (.slice none 0 0) (.slice none 0 0)) (POn fdZ (.slice none 0 0) (.slice none 0 0) (.slice none 0 0) (.slice none 0 0))
  exact ⟨RS.later h hy, B1.of_below hy, blk_old (blk_new _ _) _, blk_newn (by simp) _, blk_lt h, Nat.le_refl _, by omega, by omega, ORow.nil _ _ _ _ _, ORow.nil _ _ _ _ _, ORow.nil _ _ _ _ _, ORow.nil _ _ _ _ _⟩

/-- A proto that is read, while the result is written. -/
structure QW (w0 : World) (g : Nat) (a : Option Addr) (n cap G : Nat) (d : FD) (su sc si sn : Value) (p : Nat) (bd : Bool) (w : World) : Prop where
  rs : RS w g a n cap p bd
  b1 : B1 g w0 w
  hG : ∃ arr, w.heap[G]? = some (.cells arr 50)
  lg : g < w0.heap.size
  lG : w0.heap.size ≤ G
  ru : ORow w w0.heap.size 110 2 UD.cells su d.ups
  rc : ORow w w0.heap.size 113 5 VD.cells sc d.consts
  ri : ORow w w0.heap.size 52 5 ID.cells si d.ins
  rn : ORow w w0.heap.size 116 4 ND.cells sn d.named
theorem PW.q {w0 : World} {g : Nat} {a : Option Addr} {n cap G J : Nat} {d : FD} {su sc si sn : Value} {p : Nat} {bd : Bool} {w : World} (h : PW w0 g a n cap G J d su sc si sn p bd w) : QW w0 g a n cap G d su sc si sn p bd w := ⟨h.rs, h.b1, ⟨_, h.hG⟩, h.lg, h.lG, h.ru, h.rc, h.ri, h.rn⟩
theorem QW.put {w0 : World} {g : Nat} {a : Option Addr} {n cap G : Nat} {d : FD} {su sc si sn : Value} {p : Nat} {bd : Bool} {w : World} (h : QW w0 g a n cap G d su sc si sn p bd w) (j : Nat) (v : Value) : QW w0 g a n cap G d su sc si sn p bd (w.setCell ⟨G, j, none⟩ v) := by
  obtain ⟨arr, hG⟩ := h.hG
  exact ⟨h.rs.put G (by have := h.lg; have := h.lG; omega) _ _, h.b1.put G h.lG _ _, ⟨_, blk_set hG _ _⟩, h.lg, h.lG, h.ru.put hG (by decide) _ _, h.rc.put hG (by decide) _ _, h.ri.put hG (by decide) _ _, h.rn.put hG (by decide) _ _⟩

/-- What reading a proto gives. -/
def ProR (g : Nat) (a : Option Addr) (n cap p : Nat) (bd : Bool) (bs : List UInt8) (w : World) (e : Ending) (w' : World) : Prop :=
  ∃ (d : FD) (su sc si sn : Value) (p' : Nat) (bd' : Bool), e = .returned (.agg #[.string d.name, .int .i64 d.line, .int .i64 d.params, .bool d.rest, .int .i64 d.regs, su, sc, si, sn]) ∧ DI n d ∧ ORow w' w.heap.size 110 2 UD.cells su d.ups ∧ ORow w' w.heap.size 113 5 VD.cells sc d.consts ∧ ORow w' w.heap.size 52 5 ID.cells si d.ins ∧ ORow w' w.heap.size 116 4 ND.cells sn d.named ∧ RS w' g a n cap p' bd' ∧ B1 g w w' ∧ p ≤ p' ∧ p' ≤ n ∧ (bd' = false → p + d.ins.length < p') ∧ (∀ x r0, FOk x → bd = false → bs.drop p = protoL x ++ r0 → d = x ∧ bs.drop p' = r0 ∧ bd' = false)

set_option maxRecDepth 20000 in
set_option maxHeartbeats 40000000 in
theorem rproto_any (g b off n cap p : Nat) (bd : Bool) (bs : List UInt8) (w : World) (h : RS w g (some ⟨b, off, none⟩) n cap p bd) (hb : RB w g (some ⟨b, off, none⟩) bs) (hn : bs.length = n) (hn2 : n ≤ 1000000) (hcap : n ≤ cap) (hcm : cap ≤ maxLen) (hp : p ≤ n) :
    Calls Tryz.prog 38 #[.pointer (some ⟨g, 0, none⟩)] w (ProR g (some ⟨b, off, none⟩) n cap p bd bs w) := by
  have H0 : Hid (RS w g (some ⟨b, off, none⟩) n cap p bd) := h
  have HN : Hid (bs.length = n) := hn
  have HB : Hid (RB w g (some ⟨b, off, none⟩) bs) := hb
  have HM : Hid (cap ≤ maxLen) := hcm
  have hgw := blk_lt h
  clear h hb hn hcm
  go_enter Tryz.func38, Tryz.ntmps38
  go_wp2_with fail
  have P0 : Hid (PW w g (some ⟨b, off, none⟩) n cap w.heap.size (w.heap.size + 1) fdZ (.slice none 0 0) (.slice none 0 0) (.slice none 0 0) (.slice none 0 0) p bd ((w.alloc (POn fdZ (.slice none 0 0) (.slice none 0 0) (.slice none 0 0) (.slice none 0 0))).alloc (POn fdZ (.slice none 0 0) (.slice none 0 0) (.slice none 0 0) (.slice none 0 0)))) :=
    PW.start H0.out
  refine (rtext_any g b off n cap p bd bs _ P0.out.rs (HB.out.b1 P0.out.b1) HN.out hn2 hcap HM.out hp).mono ?_
  rintro e w1 ⟨z1, p1, bd1, rfl, hz1, hr, hk, hq1, hp1, hf, hq⟩
  obtain ⟨J, hJ⟩ : ∃ J, J = w.heap.size + 1 := ⟨_, rfl⟩
  obtain ⟨G, hG⟩ : ∃ G, G = w.heap.size := ⟨_, rfl⟩
  rw [← hJ, ← hG] at P0
  rw [← hJ, ← hG]
  clear hJ hG H0
  have P1' : Hid (PW w g (some ⟨b, off, none⟩) n cap G J fdZ (.slice none 0 0) (.slice none 0 0) (.slice none 0 0) (.slice none 0 0) p1 bd1 w1) := P0.out.step hk hr
  have HF1 : Hid (bd1 = false → p < p1) := fun h => by have := hf h; omega
  have HQ1 : Hid (∀ t r0, bs.drop p = textL t ++ r0 → z1 = t ∧ bs.drop p1 = r0 ∧ bd1 = bd) := hq
  have HZ1 : Hid (z1.size ≤ n) := hz1
  have jc : w1.cell? ⟨J, 0, none⟩ = some (.string ⟨#[]⟩) := (blk_cell P1'.out.hJ 0).trans rfl
  have jz := blk_frozen P1'.out.hJ
  obtain ⟨d1, hd1⟩ : ∃ d, d = { fdZ with name := z1 } := ⟨_, rfl⟩
  have HD1 : Hid (d1 = { fdZ with name := z1 }) := hd1
  have P1 : Hid (PW w g (some ⟨b, off, none⟩) n cap G J d1 (.slice none 0 0) (.slice none 0 0) (.slice none 0 0) (.slice none 0 0) p1 bd1 (w1.setCell ⟨J, 0, none⟩ (.string z1))) := P1'.out.fld 0 _ _ (by rw [hd1]) (by rw [hd1]) (by rw [hd1]) (by rw [hd1]) (by rw [hd1]; exact (blk_set P1'.out.hJ 0 _).trans rfl)
  clear hr hk hf hq hz1 P0 P1' hd1
  go_wp2_with fail
  clear jc jz
  refine (rnum_any g (some ⟨b, off, none⟩) n cap p1 bd1 bs _ P1.out.rs (HB.out.b1 P1.out.b1) HN.out hn2 hp1).mono ?_
  rintro e w2 ⟨z2, p2, bd2, rfl, hz2, hr, hk, hq2, hp2, hf, hq⟩
  have P2' : Hid (PW w g (some ⟨b, off, none⟩) n cap G J d1 (.slice none 0 0) (.slice none 0 0) (.slice none 0 0) (.slice none 0 0) p2 bd2 w2) := P1.out.step hk hr
  have HF2 : Hid (bd2 = false → p < p2) := fun h => by have := hf h; have := HF1.out this.1; omega
  have HQ2 : Hid (∀ x r0, I64 x → bs.drop p1 = numL x ++ r0 → z2 = x ∧ bs.drop p2 = r0 ∧ bd2 = bd1) := hq
  have HZ2 : Hid (I64 z2) := hz2
  have jc : w2.cell? ⟨J, 1, none⟩ = some (.int .i64 d1.line) := (blk_cell P2'.out.hJ 1).trans rfl
  have jz := blk_frozen P2'.out.hJ
  obtain ⟨d2, hd2⟩ : ∃ d, d = { d1 with line := z2 } := ⟨_, rfl⟩
  have HD2 : Hid (d2 = { d1 with line := z2 }) := hd2
  have P2 : Hid (PW w g (some ⟨b, off, none⟩) n cap G J d2 (.slice none 0 0) (.slice none 0 0) (.slice none 0 0) (.slice none 0 0) p2 bd2 (w2.setCell ⟨J, 1, none⟩ (.int .i64 z2))) := P2'.out.fld 1 _ _ (by rw [hd2]) (by rw [hd2]) (by rw [hd2]) (by rw [hd2]) (by rw [hd2]; exact (blk_set P2'.out.hJ 1 _).trans rfl)
  clear hr hk hf hq hz2 P1 P2' hd2 HF1
  go_wp2_with fail
  clear jc jz
  refine (rnum_any g (some ⟨b, off, none⟩) n cap p2 bd2 bs _ P2.out.rs (HB.out.b1 P2.out.b1) HN.out hn2 hp2).mono ?_
  rintro e w3 ⟨z3, p3, bd3, rfl, hz3, hr, hk, hq3, hp3, hf, hq⟩
  have P3' : Hid (PW w g (some ⟨b, off, none⟩) n cap G J d2 (.slice none 0 0) (.slice none 0 0) (.slice none 0 0) (.slice none 0 0) p3 bd3 w3) := P2.out.step hk hr
  have HF3 : Hid (bd3 = false → p < p3) := fun h => by have := hf h; have := HF2.out this.1; omega
  have HQ3 : Hid (∀ x r0, I64 x → bs.drop p2 = numL x ++ r0 → z3 = x ∧ bs.drop p3 = r0 ∧ bd3 = bd2) := hq
  have HZ3 : Hid (I64 z3) := hz3
  have jc : w3.cell? ⟨J, 2, none⟩ = some (.int .i64 d2.params) := (blk_cell P3'.out.hJ 2).trans rfl
  have jz := blk_frozen P3'.out.hJ
  obtain ⟨d3, hd3⟩ : ∃ d, d = { d2 with params := z3 } := ⟨_, rfl⟩
  have HD3 : Hid (d3 = { d2 with params := z3 }) := hd3
  have P3 : Hid (PW w g (some ⟨b, off, none⟩) n cap G J d3 (.slice none 0 0) (.slice none 0 0) (.slice none 0 0) (.slice none 0 0) p3 bd3 (w3.setCell ⟨J, 2, none⟩ (.int .i64 z3))) := P3'.out.fld 2 _ _ (by rw [hd3]) (by rw [hd3]) (by rw [hd3]) (by rw [hd3]) (by rw [hd3]; exact (blk_set P3'.out.hJ 2 _).trans rfl)
  clear hr hk hf hq hz3 P2 P3' hd3 HF2
  go_wp2_with fail
  clear jc jz
  refine (rbyte_any g (some ⟨b, off, none⟩) n cap p3 bd3 bs _ P3.out.rs (HB.out.b1 P3.out.b1) HN.out hn2 hp3).mono ?_
  rintro e w4 ⟨z4, p4, bd4, rfl, hz4, hr, hk, hq4, hp4, hf, hq⟩
  have P4' : Hid (PW w g (some ⟨b, off, none⟩) n cap G J d3 (.slice none 0 0) (.slice none 0 0) (.slice none 0 0) (.slice none 0 0) p4 bd4 w4) := P3.out.step hk hr
  have HF4 : Hid (bd4 = false → p < p4) := fun h => by have := hf h; have := HF3.out this.1; omega
  have HQ4 : Hid (∀ u, bs[p3]? = some u → z4 = u.toNat ∧ p4 = p3 + 1 ∧ bd4 = bd3) := hq
  have HZ4 : Hid (z4 < 256) := hz4
  have jc : w4.cell? ⟨J, 3, none⟩ = some (.bool d3.rest) := (blk_cell P4'.out.hJ 3).trans rfl
  have jz := blk_frozen P4'.out.hJ
  obtain ⟨d4, hd4⟩ : ∃ d, d = { d3 with rest := ((z4 : Int) != 0) } := ⟨_, rfl⟩
  have HD4 : Hid (d4 = { d3 with rest := ((z4 : Int) != 0) }) := hd4
  have P4 : Hid (PW w g (some ⟨b, off, none⟩) n cap G J d4 (.slice none 0 0) (.slice none 0 0) (.slice none 0 0) (.slice none 0 0) p4 bd4 (w4.setCell ⟨J, 3, none⟩ (.bool ((z4 : Int) != 0)))) := P4'.out.fld 3 _ _ (by rw [hd4]) (by rw [hd4]) (by rw [hd4]) (by rw [hd4]) (by rw [hd4]; exact (blk_set P4'.out.hJ 3 _).trans rfl)
  clear hr hk hf hq hz4 P3 P4' hd4 HF3
  go_wp2_with fail
  clear jc jz
  refine (rnum_any g (some ⟨b, off, none⟩) n cap p4 bd4 bs _ P4.out.rs (HB.out.b1 P4.out.b1) HN.out hn2 hp4).mono ?_
  rintro e w5 ⟨z5, p5, bd5, rfl, hz5, hr, hk, hq5, hp5, hf, hq⟩
  have P5' : Hid (PW w g (some ⟨b, off, none⟩) n cap G J d4 (.slice none 0 0) (.slice none 0 0) (.slice none 0 0) (.slice none 0 0) p5 bd5 w5) := P4.out.step hk hr
  have HF5 : Hid (bd5 = false → p < p5) := fun h => by have := hf h; have := HF4.out this.1; omega
  have HQ5 : Hid (∀ x r0, I64 x → bs.drop p4 = numL x ++ r0 → z5 = x ∧ bs.drop p5 = r0 ∧ bd5 = bd4) := hq
  have HZ5 : Hid (I64 z5) := hz5
  have jc : w5.cell? ⟨J, 4, none⟩ = some (.int .i64 d4.regs) := (blk_cell P5'.out.hJ 4).trans rfl
  have jz := blk_frozen P5'.out.hJ
  obtain ⟨d5, hd5⟩ : ∃ d, d = { d4 with regs := z5 } := ⟨_, rfl⟩
  have HD5 : Hid (d5 = { d4 with regs := z5 }) := hd5
  have P5 : Hid (PW w g (some ⟨b, off, none⟩) n cap G J d5 (.slice none 0 0) (.slice none 0 0) (.slice none 0 0) (.slice none 0 0) p5 bd5 (w5.setCell ⟨J, 4, none⟩ (.int .i64 z5))) := P5'.out.fld 4 _ _ (by rw [hd5]) (by rw [hd5]) (by rw [hd5]) (by rw [hd5]) (by rw [hd5]; exact (blk_set P5'.out.hJ 4 _).trans rfl)
  clear hr hk hf hq hz5 P4 P5' hd5 HF4
  go_wp2_with fail
  clear jc jz
  have HT5 : Hid (∀ x r0, FOk x → bd = false → bs.drop p = protoL x ++ r0 → d5 = hd5 x ∧ bs.drop p5 = R5 x ++ r0 ∧ bd5 = false) := by
    intro x r0 hx hbd hd
    rw [proto_R] at hd
    obtain ⟨a1, b1, c1⟩ := HQ1.out _ _ hd
    obtain ⟨a2, b2, c2⟩ := HQ2.out _ _ hx.line b1
    obtain ⟨a3, b3, c3⟩ := HQ3.out _ _ hx.params b2
    obtain ⟨a4, b4, c4⟩ := flag_at b3 HQ4.out
    obtain ⟨a5, b5, c5⟩ := HQ5.out _ _ hx.regs b4
    refine ⟨?_, b5, by rw [c5, c4, c3, c2, c1, hbd]⟩
    rw [HD5.out, HD4.out, HD3.out, HD2.out, HD1.out, a1, a2, a3, a4, a5]; rfl
  have HI5 : Hid (DI n d5) := by
    show DI n d5
    rw [HD5.out, HD4.out, HD3.out, HD2.out, HD1.out]
    exact ⟨HZ1.out, HZ2.out, HZ3.out, HZ5.out, fun u hu => by simp [fdZ] at hu, fun u hu => by simp [fdZ] at hu, fun u hu => by simp [fdZ] at hu, fun u hu => by simp [fdZ] at hu, by simp [fdZ], by simp [fdZ], by simp [fdZ], by simp [fdZ]⟩
  clear HQ1 HQ2 HQ3 HQ4 HQ5 HD1 HD2 HD3 HD4 HD5 HZ1 HZ2 HZ3 HZ4 HZ5
  have HF5' : Hid (bd5 = false → p + d5.ins.length < p5) := by
    have : d5.ins = [] := P5.out.ri.none
    intro h; rw [this]; exact HF5.out h
  clear HF5
  refine (rcount_any g (some ⟨b, off, none⟩) n cap p5 bd5 bs _ P5.out.rs (HB.out.b1 P5.out.b1) HN.out hn2 hp5).mono ?_
  rintro e v0 ⟨k0, rr0, bc0, rfl, hr, hk, hqa0, hqb0, hf, hq⟩
  have PA0 : Hid (PW w g (some ⟨b, off, none⟩) n cap G J d5 (.slice none 0 0) (.slice none 0 0) (.slice none 0 0) (.slice none 0 0) rr0 bc0 v0) := P5.out.step hk hr
  have HFA0 : Hid (bc0 = false → p + d5.ins.length < rr0) := fun h => by have := hf h; have := HF5'.out this.1; omega
  have HU : d5.ups = [] := PA0.out.ru.none
  have HTA0 : Hid (∀ x r0, FOk x → bd = false → bs.drop p = protoL x ++ r0 → bc0 = false ∧ k0 + d5.ups.length = x.ups.length ∧ d5 = { hd5 x with ups := x.ups.take d5.ups.length } ∧ bs.drop rr0 = (x.ups.drop d5.ups.length).flatMap upL ++ (R6 x ++ r0)) := by
    intro x r0 hx hbd hd
    obtain ⟨a1, a2, a3⟩ := HT5.out x r0 hx hbd hd
    have hg := flat_ge upL (fun u => by have := numL_ge u.i; simp [upL, flagL]) x.ups
    obtain ⟨b1, b2, b3⟩ := hq x.ups.length (x.ups.flatMap upL ++ (R6 x ++ r0)) (by rw [List.length_append]; omega) (by rw [a2, R5, listL]; simp only [List.append_assoc])
    rw [HU]
    exact ⟨by rw [b3, a3], by rw [b1]; rfl, a1, b2⟩
  have hk0 : k0 ≤ 1000000 := by omega
  have HLA0 : Hid (k0 + d5.ups.length ≤ 1000000) := by show _ ≤ _; rw [HU]; exact hk0
  clear hr hk P5 HT5 HF5' hf hq HU
  go_wp2_with fail
  go_loopg [4] k0 (fun m s4 wr => ∃ (d : FD) (sv0 : Value) (p7 : Nat) (bd7 : Bool), s4 = .int .i64 (m : Int) ∧ m ≤ 1000000 ∧ p ≤ p7 ∧ p7 ≤ n ∧ Hid (m + d.ups.length ≤ 1000000) ∧ Hid (PW w g (some ⟨b, off, none⟩) n cap G J d sv0 (.slice none 0 0) (.slice none 0 0) (.slice none 0 0) p7 bd7 wr) ∧ Hid (DI n d) ∧ Hid (bd7 = false → p + d.ins.length < p7) ∧ Hid (∀ x r0, FOk x → bd = false → bs.drop p = protoL x ++ r0 → bd7 = false ∧ m + d.ups.length = x.ups.length ∧ d = { hd5 x with ups := x.ups.take d.ups.length } ∧ bs.drop p7 = (x.ups.drop d.ups.length).flatMap upL ++ (R6 x ++ r0)))
  case atStart => exact ⟨d5, (.slice none 0 0), rr0, bc0, rfl, hk0, by omega, by omega, HLA0, PA0, HI5, HFA0, HTA0⟩
  case round =>
    clear PA0 HI5 HFA0 HTA0 HLA0
    obtain ⟨D0, sv0, q0, bb0, rfl, hm0, hp70, hq0, HL, P0B, HI0, HF0B, HT0B⟩ := hrel
    obtain ⟨bq, hbq⟩ : ∃ bq : Bool, bq = (decide (0 < gk) && !bb0) := ⟨_, rfl⟩
    have HBQ : Hid (bq = (decide (0 < gk) && !bb0)) := hbq
    clear hbq
    go_upto_region 8 with fail
    go_cut [38] (fun s38 wx => s38 = .bool bq ∧ wx = wr)
    case first =>
      have r2 : wr.cell? ⟨g, 2, none⟩ = some (.bool bb0) := (blk_cell P0B.out.rs 2).trans rfl
      by_cases k1 : 0 < gk
      · have k2 : (0 : Int) < (gk : Int) := by omega
        go_wp2_with fail
        go_meet
        case rel => exact ⟨by rw [HBQ.out]; simp [k1], rfl⟩
      · obtain rfl : gk = 0 := by omega
        go_wp2_with fail
        go_meet
        case rel => exact ⟨by rw [HBQ.out]; simp, rfl⟩
    case rest =>
      obtain ⟨rfl, rfl⟩ := hcut
      cases bq with
      | true =>
        have hb7 : 0 < gk ∧ bb0 = false := by have := HBQ.out; simpa using this.symm
        obtain ⟨hgk, hbd7⟩ := hb7
        have HB7 : Hid (bb0 = false) := hbd7
        clear HBQ hbd7
        go_wp2_with fail
        have hy := bw1 wc (.cells #[.bool false, .int .i64 0] 110)
        have HEg : Hid (wc.heap.size ≠ g ∧ wc.heap.size ≤ wc.heap.size) := ⟨by have := blk_lt P0B.out.rs; omega, by omega⟩
        have HK0 : Hid (B1 g wc (wc.alloc (.cells #[.bool false, .int .i64 0] 110))) := B1.of_below hy
        have HR0 : Hid (RS (wc.alloc (.cells #[.bool false, .int .i64 0] 110)) g (some ⟨b, off, none⟩) n cap q0 bb0 ) := RS.later P0B.out.rs hy
        have HE0 : Hid ((wc.alloc (.cells #[.bool false, .int .i64 0] 110)).heap[wc.heap.size]? = some (.cells #[.bool false, .int .i64 0] 110)) := blk_new _ _
        refine (rbyte_any g (some ⟨b, off, none⟩) n cap q0 bb0 bs _ HR0.out (HB.out.b1 (P0B.out.b1.trans HK0.out)) HN.out hn2 hq0).mono ?_
        rintro e x01 ⟨z01, q01, bb01, rfl, hz, hr, hk, hm01, hq01, hf, hqq⟩
        obtain ⟨E, hE⟩ : ∃ E, E = wc.heap.size := ⟨_, rfl⟩
        rw [← hE]
        rw [← hE] at HE0 HEg
        have HEs : Hid (wc.heap.size ≤ E) := by show _ ≤ _; omega
        have hEJ : E ≠ J := by have := blk_lt P0B.out.hJ; omega
        have hJE : J ≠ E := fun h => hEJ h.symm
        clear hE hy
        have HQ1 : Hid (∀ u, bs[q0]? = some u → z01 = u.toNat ∧ q01 = q0 + 1 ∧ bb01 = bb0) := hqq
        have HZ1 : Hid (z01 < 256) := hz
        have HG1 : Hid (bb01 = false → bb0 = false ∧ q0 < q01) := fun h => by have := hf h; exact this
        have HEb : Hid (x01.heap[E]? = some (.cells #[.bool false, .int .i64 0] 110)) := hk.blk HE0.out HEg.out.1
        have HKb : Hid (B1 g wc x01) := HK0.out.trans hk
        have HRb : Hid (RS x01 g (some ⟨b, off, none⟩) n cap q01 bb01) := hr
        clear hqq hz hf hr hk HE0 HK0 HR0
        have HE1 : Hid ((x01.setCell ⟨E, 0, none⟩ (.bool ((z01 : Int) != 0))).heap[E]? = some (.cells #[.bool ((z01 : Int) != 0), .int .i64 0] 110)) := (blk_set HEb.out 0 _).trans rfl
        have HK1 : Hid (B1 g wc (x01.setCell ⟨E, 0, none⟩ (.bool ((z01 : Int) != 0)))) := HKb.out.put E HEs.out _ _
        have HR1 : Hid (RS (x01.setCell ⟨E, 0, none⟩ (.bool ((z01 : Int) != 0))) g (some ⟨b, off, none⟩) n cap q01 bb01) := HRb.out.put E HEg.out.1 _ _
        have e0 : x01.cell? ⟨E, 0, none⟩ = some (.bool false) := (blk_cell HEb.out 0).trans rfl
        have ez := blk_frozen HEb.out
        clear HEb HKb HRb
        go_wp2_with fail
        clear e0 ez
        refine (rnum_any g (some ⟨b, off, none⟩) n cap q01 bb01 bs _ HR1.out (HB.out.b1 (P0B.out.b1.trans HK1.out)) HN.out hn2 hq01).mono ?_
        rintro e x02 ⟨z02, q02, bb02, rfl, hz, hr, hk, hm02, hq02, hf, hqq⟩
        have HQ2 : Hid (∀ x r0, I64 x → bs.drop q01 = numL x ++ r0 → z02 = x ∧ bs.drop q02 = r0 ∧ bb02 = bb01) := hqq
        have HZ2 : Hid (I64 z02) := hz
        have HG2 : Hid (bb02 = false → bb01 = false ∧ q0 < q02) := fun h => by have := hf h; have h2 := HG1.out this.1; exact ⟨this.1, by omega⟩
        have HEb : Hid (x02.heap[E]? = some (.cells #[.bool ((z01 : Int) != 0), .int .i64 0] 110)) := hk.blk HE1.out HEg.out.1
        have HKb : Hid (B1 g wc x02) := HK1.out.trans hk
        have HRb : Hid (RS x02 g (some ⟨b, off, none⟩) n cap q02 bb02) := hr
        clear hqq hz hf hr hk HE1 HK1 HR1
        have HE2 : Hid ((x02.setCell ⟨E, 1, none⟩ (.int .i64 z02)).heap[E]? = some (.cells #[.bool ((z01 : Int) != 0), .int .i64 z02] 110)) := (blk_set HEb.out 1 _).trans rfl
        have HK2 : Hid (B1 g wc (x02.setCell ⟨E, 1, none⟩ (.int .i64 z02))) := HKb.out.put E HEs.out _ _
        have HR2 : Hid (RS (x02.setCell ⟨E, 1, none⟩ (.int .i64 z02)) g (some ⟨b, off, none⟩) n cap q02 bb02) := HRb.out.put E HEg.out.1 _ _
        have e0 : x02.cell? ⟨E, 0, none⟩ = some (.bool ((z01 : Int) != 0)) := (blk_cell HEb.out 0).trans rfl
        have e1 : x02.cell? ⟨E, 1, none⟩ = some (.int .i64 0) := (blk_cell HEb.out 1).trans rfl
        have ez := blk_frozen HEb.out
        have P9 : Hid (PW w g (some ⟨b, off, none⟩) n cap G J D0 sv0 (.slice none 0 0) (.slice none 0 0) (.slice none 0 0) q02 bb02 (x02.setCell ⟨E, 1, none⟩ (.int .i64 z02))) := P0B.out.step HK2.out HR2.out
        have j5 : x02.cell? ⟨J, 5, none⟩ = some sv0 := (blk_cell (HKb.out.blk P0B.out.hJ (by have := P0B.out.lg; have := P0B.out.lJ; omega)) 5).trans rfl
        have P10 : Hid (PW w g (some ⟨b, off, none⟩) n cap G J D0 sv0 (.slice none 0 0) (.slice none 0 0) (.slice none 0 0) q02 bb02 ((x02.setCell ⟨E, 1, none⟩ (.int .i64 z02)).alloc (.cells #[.bool ((z01 : Int) != 0), .int .i64 z02] 110))) := P9.out.later (bw1 _ _)
        obtain ⟨gs, cs, w11, HA, hJ11, P11⟩ := P10.out.app_u ⟨((z01 : Int) != 0), z02⟩ x02.heap.size 45 (blk_newn (by simp) _) (by have := HL.out; omega)
        have HF9 : Hid (bb02 = false → p + D0.ins.length + 1 < q02) := fun h => by have h1 := (HG2.out h).2; have h2 := HF0B.out HB7.out; omega
        clear HEb HKb HRb
        have j6 : w11.cell? ⟨J, 5, none⟩ = some sv0 := (blk_cell hJ11 5).trans rfl
        have jz := blk_frozen hJ11
        clear hJ11 P9 P10
        go_wp2_with (at_builtin; refine wpList_append_run rfl _ _ _ rfl _ _ _ _ rfl rfl HA.out ?_)
        go_roundg (gk - 1)
        case measure => omega
        case rel =>
          refine ⟨_, _, q02, bb02, ?_, by omega, by omega, hq02, ?_, P11, ?_, (fun h => by have := HF9.out h; show p + D0.ins.length < _; omega), ?_⟩
          · congr 1; omega
          · show _ ≤ _; have := HL.out; simp only [List.length_append, List.length_cons, List.length_nil]; omega
          · exact ⟨HI0.out.name, HI0.out.line, HI0.out.params, HI0.out.regs, fun u hu => by rcases List.mem_append.1 hu with hu | hu; exact HI0.out.ups u hu; (obtain rfl : u = _ := by simpa using hu); exact HZ2.out, HI0.out.consts, HI0.out.ins, HI0.out.named, by have := HL.out; simp only [List.length_append, List.length_cons, List.length_nil]; omega, HI0.out.lc, HI0.out.li, HI0.out.ln⟩
          · intro x r0 hx hbd hd
            obtain ⟨a1, a2, a3, a4⟩ := HT0B.out x r0 hx hbd hd
            have hlt : D0.ups.length < x.ups.length := by omega
            obtain ⟨u, hu⟩ : ∃ u, x.ups[D0.ups.length]? = some u := ⟨_, List.getElem?_eq_getElem hlt⟩
            rw [flatMap_drop upL hu, List.append_assoc] at a4
            rw [upL] at a4
            simp only [List.append_assoc] at a4
            obtain ⟨y1, g1, o1⟩ := flag_at a4 HQ1.out
            obtain ⟨y2, g2, o2⟩ := HQ2.out _ _ (hx.ups u (List.mem_of_getElem? hu)) g1
            have hue : (⟨((z01 : Int) != 0), z02⟩ : UD) = u := by cases u; simp only at y1 y2; rw [y1, y2]
            have c2 := g2
            have hbad : bb02 = false := by rw [o2, o1, a1]
            rw [hue]
            refine ⟨hbad, by simp only [List.length_append, List.length_cons, List.length_nil]; omega, ?_, by simp only [List.length_append, List.length_cons, List.length_nil]; exact c2⟩
            have : x.ups.take (D0.ups.length + 1) = x.ups.take D0.ups.length ++ [u] := by rw [List.take_add_one, hu]; rfl
            simp only [List.length_append, List.length_cons, List.length_nil, Nat.zero_add]
            rw [this]
            have h5 : D0.ups = x.ups.take D0.ups.length := congrArg FD.ups a3
            have h6 := a3
            rw [← h5] at h6 ⊢
            exact congrArg (fun y : FD => { y with ups := D0.ups ++ [u] }) h6
      | false =>
        have HTX0 : Hid (∀ x r0, FOk x → bd = false → bs.drop p = protoL x ++ r0 → D0 = hd6 x ∧ bs.drop q0 = R6 x ++ r0 ∧ bb0 = false) := by
          intro x r0 hx hbd hd
          obtain ⟨a1, a2, a3, a4⟩ := HT0B.out x r0 hx hbd hd
          have hz : gk = 0 := by have := HBQ.out; rw [a1] at this; simp at this; omega
          have hl : D0.ups.length = x.ups.length := by omega
          rw [hl, List.drop_length] at a4
          rw [hl, List.take_length] at a3
          exact ⟨a3, a4, a1⟩
        clear HT0B HL HBQ
        go_wp2_with fail
        refine (rcount_any g (some ⟨b, off, none⟩) n cap q0 bb0 bs _ P0B.out.rs (HB.out.b1 P0B.out.b1) HN.out hn2 hq0).mono ?_
        rintro e v1 ⟨k1, rr1, bc1, rfl, hr, hk, hqa1, hqb1, hf, hq⟩
        have PA1 : Hid (PW w g (some ⟨b, off, none⟩) n cap G J D0 sv0 (.slice none 0 0) (.slice none 0 0) (.slice none 0 0) rr1 bc1 v1) := P0B.out.step hk hr
        have HFA1 : Hid (bc1 = false → p + D0.ins.length < rr1) := fun h => by have := hf h; have := HF0B.out this.1; omega
        have HU : D0.consts = [] := PA1.out.rc.none
        have HTA1 : Hid (∀ x r0, FOk x → bd = false → bs.drop p = protoL x ++ r0 → bc1 = false ∧ k1 + D0.consts.length = x.consts.length ∧ D0 = { hd6 x with consts := x.consts.take D0.consts.length } ∧ bs.drop rr1 = (x.consts.drop D0.consts.length).flatMap constL ++ (R7 x ++ r0)) := by
          intro x r0 hx hbd hd
          obtain ⟨a1, a2, a3⟩ := HTX0.out x r0 hx hbd hd
          have hg := flat_ge constL (fun u => by simp [constL]) x.consts
          obtain ⟨b1, b2, b3⟩ := hq x.consts.length (x.consts.flatMap constL ++ (R7 x ++ r0)) (by rw [List.length_append]; omega) (by rw [a2, R6, listL]; simp only [List.append_assoc])
          rw [HU]
          exact ⟨by rw [b3, a3], by rw [b1]; rfl, a1, b2⟩
        have hk1 : k1 ≤ 1000000 := by omega
        have HLA1 : Hid (k1 + D0.consts.length ≤ 1000000) := by show _ ≤ _; rw [HU]; exact hk1
        clear hr hk P0B HTX0 HF0B hf hq HU
        go_wp2_with fail
        go_loopg [6] k1 (fun m s4 wr => ∃ (d : FD) (sv1 : Value) (p7 : Nat) (bd7 : Bool), s4 = .int .i64 (m : Int) ∧ m ≤ 1000000 ∧ p ≤ p7 ∧ p7 ≤ n ∧ Hid (m + d.consts.length ≤ 1000000) ∧ Hid (PW w g (some ⟨b, off, none⟩) n cap G J d sv0 sv1 (.slice none 0 0) (.slice none 0 0) p7 bd7 wr) ∧ Hid (DI n d) ∧ Hid (bd7 = false → p + d.ins.length < p7) ∧ Hid (∀ x r0, FOk x → bd = false → bs.drop p = protoL x ++ r0 → bd7 = false ∧ m + d.consts.length = x.consts.length ∧ d = { hd6 x with consts := x.consts.take d.consts.length } ∧ bs.drop p7 = (x.consts.drop d.consts.length).flatMap constL ++ (R7 x ++ r0)))
        case atStart => exact ⟨D0, (.slice none 0 0), rr1, bc1, rfl, hk1, by omega, by omega, HLA1, PA1, HI0, HFA1, HTA1⟩
        case round =>
          clear PA1 HI0 HFA1 HTA1 HLA1
          obtain ⟨D1, sv1, q1, bb1, rfl, hm1, hp71, hq1, HL, P1B, HI1, HF1B, HT1B⟩ := hrel
          obtain ⟨bq, hbq⟩ : ∃ bq : Bool, bq = (decide (0 < gk) && !bb1) := ⟨_, rfl⟩
          have HBQ : Hid (bq = (decide (0 < gk) && !bb1)) := hbq
          clear hbq
          go_upto_region 15 with fail
          go_cut [64] (fun s38 wx => s38 = .bool bq ∧ wx = wr)
          case first =>
            have r2 : wr.cell? ⟨g, 2, none⟩ = some (.bool bb1) := (blk_cell P1B.out.rs 2).trans rfl
            by_cases k1 : 0 < gk
            · have k2 : (0 : Int) < (gk : Int) := by omega
              go_wp2_with fail
              go_meet
              case rel => exact ⟨by rw [HBQ.out]; simp [k1], rfl⟩
            · obtain rfl : gk = 0 := by omega
              go_wp2_with fail
              go_meet
              case rel => exact ⟨by rw [HBQ.out]; simp, rfl⟩
          case rest =>
            obtain ⟨rfl, rfl⟩ := hcut
            cases bq with
            | true =>
              have hb7 : 0 < gk ∧ bb1 = false := by have := HBQ.out; simpa using this.symm
              obtain ⟨hgk, hbd7⟩ := hb7
              have HB7 : Hid (bb1 = false) := hbd7
              clear HBQ hbd7
              go_wp2_with fail
              refine (rconst_any g b off n cap q1 bb1 bs _ P1B.out.rs (HB.out.b1 P1B.out.b1) HN.out hn2 hcap HM.out hq1).mono ?_
              rintro e w9 ⟨x9, p9, bd9, rfl, hz1, hz2, hz3, hr, hk, hq9, hp10, hf9, hqq⟩
              have HF9 : Hid (bd9 = false → p + D1.ins.length < p9) := fun h => by have := hf9 h; have := HF1B.out HB7.out; omega
              have HQ9 : Hid (∀ x r0, COk x → bs.drop q1 = constL x ++ r0 → x9 = x ∧ bs.drop p9 = r0 ∧ bd9 = bb1) := hqq
              have HZ9 : Hid (I64 x9.n ∧ x9.f < 18446744073709551616 ∧ x9.s.size ≤ n) := ⟨hz1, hz2, hz3⟩
              have P9 : Hid (PW w g (some ⟨b, off, none⟩) n cap G J D1 sv0 sv1 (.slice none 0 0) (.slice none 0 0) p9 bd9 w9) := P1B.out.step hk hr
              have j5 : w9.cell? ⟨J, 6, none⟩ = some sv1 := (blk_cell P9.out.hJ 6).trans rfl
              have P10 : Hid (PW w g (some ⟨b, off, none⟩) n cap G J D1 sv0 sv1 (.slice none 0 0) (.slice none 0 0) p9 bd9 ((w9.alloc (.cells #[.int .i64 x9.k, .int .i64 x9.n, .float .f64 x9.f, .string x9.s, .int .i64 x9.r] 113)).alloc (.cells #[.int .i64 x9.k, .int .i64 x9.n, .float .f64 x9.f, .string x9.s, .int .i64 x9.r] 113))) := P9.out.later (bw2 _ _ _)
              have hJ9 : J < w9.heap.size := blk_lt P9.out.hJ
              have hJ8 : J ≠ w9.heap.size := by omega
              clear hr hk hf9 hqq hz1 hz2 hz3
              obtain ⟨gs, cs, w11, HA, hJ11, P11⟩ := P10.out.app_c x9 (w9.heap.size + 1) 46 (blk_newn (by simp) _) (by have := HL.out; omega)
              have j6 : w11.cell? ⟨J, 6, none⟩ = some sv1 := (blk_cell hJ11 6).trans rfl
              have jz := blk_frozen hJ11
              clear hJ11 P9 P10
              go_wp2_with (at_builtin; refine wpList_append_run rfl _ _ _ rfl _ _ _ _ rfl rfl HA.out ?_)
              go_roundg (gk - 1)
              case measure => omega
              case rel =>
                refine ⟨_, _, p9, bd9, ?_, by omega, by omega, hp10, ?_, P11, ?_, HF9, ?_⟩
                · congr 1; omega
                · show _ ≤ _; have := HL.out; simp only [List.length_append, List.length_cons, List.length_nil]; omega
                · exact ⟨HI1.out.name, HI1.out.line, HI1.out.params, HI1.out.regs, HI1.out.ups, fun u hu => by rcases List.mem_append.1 hu with hu | hu; exact HI1.out.consts u hu; (obtain rfl : u = _ := by simpa using hu); exact HZ9.out, HI1.out.ins, HI1.out.named, HI1.out.lu, by have := HL.out; simp only [List.length_append, List.length_cons, List.length_nil]; omega, HI1.out.li, HI1.out.ln⟩
                · intro x r0 hx hbd hd
                  obtain ⟨a1, a2, a3, a4⟩ := HT1B.out x r0 hx hbd hd
                  have hlt : D1.consts.length < x.consts.length := by omega
                  obtain ⟨u, hu⟩ : ∃ u, x.consts[D1.consts.length]? = some u := ⟨_, List.getElem?_eq_getElem hlt⟩
                  rw [flatMap_drop constL hu, List.append_assoc] at a4
                  obtain ⟨c1, c2, c3⟩ := HQ9.out _ _ (hx.consts u (List.mem_of_getElem? hu)) a4
                  have hue : x9 = u := c1
                  have hbad : bd9 = false := by rw [c3, a1]
                  rw [hue]
                  refine ⟨hbad, by simp only [List.length_append, List.length_cons, List.length_nil]; omega, ?_, by simp only [List.length_append, List.length_cons, List.length_nil]; exact c2⟩
                  have : x.consts.take (D1.consts.length + 1) = x.consts.take D1.consts.length ++ [u] := by rw [List.take_add_one, hu]; rfl
                  simp only [List.length_append, List.length_cons, List.length_nil, Nat.zero_add]
                  rw [this]
                  have h5 : D1.consts = x.consts.take D1.consts.length := congrArg FD.consts a3
                  have h6 := a3
                  rw [← h5] at h6 ⊢
                  exact congrArg (fun y : FD => { y with consts := D1.consts ++ [u] }) h6
            | false =>
              have HTX1 : Hid (∀ x r0, FOk x → bd = false → bs.drop p = protoL x ++ r0 → D1 = hd7 x ∧ bs.drop q1 = R7 x ++ r0 ∧ bb1 = false) := by
                intro x r0 hx hbd hd
                obtain ⟨a1, a2, a3, a4⟩ := HT1B.out x r0 hx hbd hd
                have hz : gk = 0 := by have := HBQ.out; rw [a1] at this; simp at this; omega
                have hl : D1.consts.length = x.consts.length := by omega
                rw [hl, List.drop_length] at a4
                rw [hl, List.take_length] at a3
                exact ⟨a3, a4, a1⟩
              clear HT1B HL HBQ
              go_wp2_with fail
              refine (rcount_any g (some ⟨b, off, none⟩) n cap q1 bb1 bs _ P1B.out.rs (HB.out.b1 P1B.out.b1) HN.out hn2 hq1).mono ?_
              rintro e v2 ⟨k2, rr2, bc2, rfl, hr, hk, hqa2, hqb2, hf, hq⟩
              have PA2 : Hid (PW w g (some ⟨b, off, none⟩) n cap G J D1 sv0 sv1 (.slice none 0 0) (.slice none 0 0) rr2 bc2 v2) := P1B.out.step hk hr
              have HFA2 : Hid (bc2 = false → p + D1.ins.length < rr2) := fun h => by have := hf h; have := HF1B.out this.1; omega
              have HU : D1.ins = [] := PA2.out.ri.none
              have HTA2 : Hid (∀ x r0, FOk x → bd = false → bs.drop p = protoL x ++ r0 → bc2 = false ∧ k2 + D1.ins.length = x.ins.length ∧ D1 = { hd7 x with ins := x.ins.take D1.ins.length } ∧ bs.drop rr2 = (x.ins.drop D1.ins.length).flatMap stepL ++ (R8 x ++ r0)) := by
                intro x r0 hx hbd hd
                obtain ⟨a1, a2, a3⟩ := HTX1.out x r0 hx hbd hd
                have hg := flat_ge stepL (fun u => by have := numL_ge u.op; simp only [stepL, List.length_append]; omega) x.ins
                obtain ⟨b1, b2, b3⟩ := hq x.ins.length (x.ins.flatMap stepL ++ (R8 x ++ r0)) (by rw [List.length_append]; omega) (by rw [a2, R7, listL]; simp only [List.append_assoc])
                rw [HU]
                exact ⟨by rw [b3, a3], by rw [b1]; rfl, a1, b2⟩
              have hk2 : k2 ≤ 1000000 := by omega
              have HLA2 : Hid (k2 + D1.ins.length ≤ 1000000) := by show _ ≤ _; rw [HU]; exact hk2
              clear hr hk P1B HTX1 HF1B hf hq HU
              go_wp2_with fail
              go_loopg [8] k2 (fun m s4 wr => ∃ (d : FD) (sv2 : Value) (p7 : Nat) (bd7 : Bool), s4 = .int .i64 (m : Int) ∧ m ≤ 1000000 ∧ p ≤ p7 ∧ p7 ≤ n ∧ Hid (m + d.ins.length ≤ 1000000) ∧ Hid (PW w g (some ⟨b, off, none⟩) n cap G J d sv0 sv1 sv2 (.slice none 0 0) p7 bd7 wr) ∧ Hid (DI n d) ∧ Hid (bd7 = false → p + d.ins.length < p7) ∧ Hid (∀ x r0, FOk x → bd = false → bs.drop p = protoL x ++ r0 → bd7 = false ∧ m + d.ins.length = x.ins.length ∧ d = { hd7 x with ins := x.ins.take d.ins.length } ∧ bs.drop p7 = (x.ins.drop d.ins.length).flatMap stepL ++ (R8 x ++ r0)))
              case atStart => exact ⟨D1, (.slice none 0 0), rr2, bc2, rfl, hk2, by omega, by omega, HLA2, PA2, HI1, HFA2, HTA2⟩
              case round =>
                clear PA2 HI1 HFA2 HTA2 HLA2
                obtain ⟨D2, sv2, q2, bb2, rfl, hm2, hp72, hq2, HL, P2B, HI2, HF2B, HT2B⟩ := hrel
                obtain ⟨bq, hbq⟩ : ∃ bq : Bool, bq = (decide (0 < gk) && !bb2) := ⟨_, rfl⟩
                have HBQ : Hid (bq = (decide (0 < gk) && !bb2)) := hbq
                clear hbq
                go_upto_region 20 with fail
                go_cut [85] (fun s38 wx => s38 = .bool bq ∧ wx = wr)
                case first =>
                  have r2 : wr.cell? ⟨g, 2, none⟩ = some (.bool bb2) := (blk_cell P2B.out.rs 2).trans rfl
                  by_cases k1 : 0 < gk
                  · have k2 : (0 : Int) < (gk : Int) := by omega
                    go_wp2_with fail
                    go_meet
                    case rel => exact ⟨by rw [HBQ.out]; simp [k1], rfl⟩
                  · obtain rfl : gk = 0 := by omega
                    go_wp2_with fail
                    go_meet
                    case rel => exact ⟨by rw [HBQ.out]; simp, rfl⟩
                case rest =>
                  obtain ⟨rfl, rfl⟩ := hcut
                  cases bq with
                  | true =>
                    have hb7 : 0 < gk ∧ bb2 = false := by have := HBQ.out; simpa using this.symm
                    obtain ⟨hgk, hbd7⟩ := hb7
                    have HB7 : Hid (bb2 = false) := hbd7
                    clear HBQ hbd7
                    go_wp2_with fail
                    have hy := bw1 wc (.cells #[.int .i64 0, .int .i64 0, .int .i64 0, .int .i64 0, .int .i64 0] 52)
                    have HEg : Hid (wc.heap.size ≠ g ∧ wc.heap.size ≤ wc.heap.size) := ⟨by have := blk_lt P2B.out.rs; omega, by omega⟩
                    have HK0 : Hid (B1 g wc (wc.alloc (.cells #[.int .i64 0, .int .i64 0, .int .i64 0, .int .i64 0, .int .i64 0] 52))) := B1.of_below hy
                    have HR0 : Hid (RS (wc.alloc (.cells #[.int .i64 0, .int .i64 0, .int .i64 0, .int .i64 0, .int .i64 0] 52)) g (some ⟨b, off, none⟩) n cap q2 bb2 ) := RS.later P2B.out.rs hy
                    have HE0 : Hid ((wc.alloc (.cells #[.int .i64 0, .int .i64 0, .int .i64 0, .int .i64 0, .int .i64 0] 52)).heap[wc.heap.size]? = some (.cells #[.int .i64 0, .int .i64 0, .int .i64 0, .int .i64 0, .int .i64 0] 52)) := blk_new _ _
                    refine (rnum_any g (some ⟨b, off, none⟩) n cap q2 bb2 bs _ HR0.out (HB.out.b1 (P2B.out.b1.trans HK0.out)) HN.out hn2 hq2).mono ?_
                    rintro e x21 ⟨z21, q21, bb21, rfl, hz, hr, hk, hm21, hq21, hf, hqq⟩
                    obtain ⟨E, hE⟩ : ∃ E, E = wc.heap.size := ⟨_, rfl⟩
                    rw [← hE]
                    rw [← hE] at HE0 HEg
                    have HEs : Hid (wc.heap.size ≤ E) := by show _ ≤ _; omega
                    have hEJ : E ≠ J := by have := blk_lt P2B.out.hJ; omega
                    have hJE : J ≠ E := fun h => hEJ h.symm
                    clear hE hy
                    have HQ1 : Hid (∀ x r0, I64 x → bs.drop q2 = numL x ++ r0 → z21 = x ∧ bs.drop q21 = r0 ∧ bb21 = bb2) := hqq
                    have HZ1 : Hid (I64 z21) := hz
                    have HG1 : Hid (bb21 = false → bb2 = false ∧ q2 < q21) := fun h => by have := hf h; exact this
                    have HEb : Hid (x21.heap[E]? = some (.cells #[.int .i64 0, .int .i64 0, .int .i64 0, .int .i64 0, .int .i64 0] 52)) := hk.blk HE0.out HEg.out.1
                    have HKb : Hid (B1 g wc x21) := HK0.out.trans hk
                    have HRb : Hid (RS x21 g (some ⟨b, off, none⟩) n cap q21 bb21) := hr
                    clear hqq hz hf hr hk HE0 HK0 HR0
                    have HE1 : Hid ((x21.setCell ⟨E, 0, none⟩ (.int .i64 z21)).heap[E]? = some (.cells #[.int .i64 z21, .int .i64 0, .int .i64 0, .int .i64 0, .int .i64 0] 52)) := (blk_set HEb.out 0 _).trans rfl
                    have HK1 : Hid (B1 g wc (x21.setCell ⟨E, 0, none⟩ (.int .i64 z21))) := HKb.out.put E HEs.out _ _
                    have HR1 : Hid (RS (x21.setCell ⟨E, 0, none⟩ (.int .i64 z21)) g (some ⟨b, off, none⟩) n cap q21 bb21) := HRb.out.put E HEg.out.1 _ _
                    have e0 : x21.cell? ⟨E, 0, none⟩ = some (.int .i64 0) := (blk_cell HEb.out 0).trans rfl
                    have ez := blk_frozen HEb.out
                    clear HEb HKb HRb
                    go_wp2_with fail
                    clear e0 ez
                    refine (rnum_any g (some ⟨b, off, none⟩) n cap q21 bb21 bs _ HR1.out (HB.out.b1 (P2B.out.b1.trans HK1.out)) HN.out hn2 hq21).mono ?_
                    rintro e x22 ⟨z22, q22, bb22, rfl, hz, hr, hk, hm22, hq22, hf, hqq⟩
                    have HQ2 : Hid (∀ x r0, I64 x → bs.drop q21 = numL x ++ r0 → z22 = x ∧ bs.drop q22 = r0 ∧ bb22 = bb21) := hqq
                    have HZ2 : Hid (I64 z22) := hz
                    have HG2 : Hid (bb22 = false → bb21 = false ∧ q2 < q22) := fun h => by have := hf h; have h2 := HG1.out this.1; exact ⟨this.1, by omega⟩
                    have HEb : Hid (x22.heap[E]? = some (.cells #[.int .i64 z21, .int .i64 0, .int .i64 0, .int .i64 0, .int .i64 0] 52)) := hk.blk HE1.out HEg.out.1
                    have HKb : Hid (B1 g wc x22) := HK1.out.trans hk
                    have HRb : Hid (RS x22 g (some ⟨b, off, none⟩) n cap q22 bb22) := hr
                    clear hqq hz hf hr hk HE1 HK1 HR1
                    have HE2 : Hid ((x22.setCell ⟨E, 1, none⟩ (.int .i64 z22)).heap[E]? = some (.cells #[.int .i64 z21, .int .i64 z22, .int .i64 0, .int .i64 0, .int .i64 0] 52)) := (blk_set HEb.out 1 _).trans rfl
                    have HK2 : Hid (B1 g wc (x22.setCell ⟨E, 1, none⟩ (.int .i64 z22))) := HKb.out.put E HEs.out _ _
                    have HR2 : Hid (RS (x22.setCell ⟨E, 1, none⟩ (.int .i64 z22)) g (some ⟨b, off, none⟩) n cap q22 bb22) := HRb.out.put E HEg.out.1 _ _
                    have e1 : x22.cell? ⟨E, 1, none⟩ = some (.int .i64 0) := (blk_cell HEb.out 1).trans rfl
                    have ez := blk_frozen HEb.out
                    clear HEb HKb HRb
                    go_wp2_with fail
                    clear e1 ez
                    refine (rnum_any g (some ⟨b, off, none⟩) n cap q22 bb22 bs _ HR2.out (HB.out.b1 (P2B.out.b1.trans HK2.out)) HN.out hn2 hq22).mono ?_
                    rintro e x23 ⟨z23, q23, bb23, rfl, hz, hr, hk, hm23, hq23, hf, hqq⟩
                    have HQ3 : Hid (∀ x r0, I64 x → bs.drop q22 = numL x ++ r0 → z23 = x ∧ bs.drop q23 = r0 ∧ bb23 = bb22) := hqq
                    have HZ3 : Hid (I64 z23) := hz
                    have HG3 : Hid (bb23 = false → bb22 = false ∧ q2 < q23) := fun h => by have := hf h; have h2 := HG2.out this.1; exact ⟨this.1, by omega⟩
                    have HEb : Hid (x23.heap[E]? = some (.cells #[.int .i64 z21, .int .i64 z22, .int .i64 0, .int .i64 0, .int .i64 0] 52)) := hk.blk HE2.out HEg.out.1
                    have HKb : Hid (B1 g wc x23) := HK2.out.trans hk
                    have HRb : Hid (RS x23 g (some ⟨b, off, none⟩) n cap q23 bb23) := hr
                    clear hqq hz hf hr hk HE2 HK2 HR2
                    have HE3 : Hid ((x23.setCell ⟨E, 2, none⟩ (.int .i64 z23)).heap[E]? = some (.cells #[.int .i64 z21, .int .i64 z22, .int .i64 z23, .int .i64 0, .int .i64 0] 52)) := (blk_set HEb.out 2 _).trans rfl
                    have HK3 : Hid (B1 g wc (x23.setCell ⟨E, 2, none⟩ (.int .i64 z23))) := HKb.out.put E HEs.out _ _
                    have HR3 : Hid (RS (x23.setCell ⟨E, 2, none⟩ (.int .i64 z23)) g (some ⟨b, off, none⟩) n cap q23 bb23) := HRb.out.put E HEg.out.1 _ _
                    have e2 : x23.cell? ⟨E, 2, none⟩ = some (.int .i64 0) := (blk_cell HEb.out 2).trans rfl
                    have ez := blk_frozen HEb.out
                    clear HEb HKb HRb
                    go_wp2_with fail
                    clear e2 ez
                    refine (rnum_any g (some ⟨b, off, none⟩) n cap q23 bb23 bs _ HR3.out (HB.out.b1 (P2B.out.b1.trans HK3.out)) HN.out hn2 hq23).mono ?_
                    rintro e x24 ⟨z24, q24, bb24, rfl, hz, hr, hk, hm24, hq24, hf, hqq⟩
                    have HQ4 : Hid (∀ x r0, I64 x → bs.drop q23 = numL x ++ r0 → z24 = x ∧ bs.drop q24 = r0 ∧ bb24 = bb23) := hqq
                    have HZ4 : Hid (I64 z24) := hz
                    have HG4 : Hid (bb24 = false → bb23 = false ∧ q2 < q24) := fun h => by have := hf h; have h2 := HG3.out this.1; exact ⟨this.1, by omega⟩
                    have HEb : Hid (x24.heap[E]? = some (.cells #[.int .i64 z21, .int .i64 z22, .int .i64 z23, .int .i64 0, .int .i64 0] 52)) := hk.blk HE3.out HEg.out.1
                    have HKb : Hid (B1 g wc x24) := HK3.out.trans hk
                    have HRb : Hid (RS x24 g (some ⟨b, off, none⟩) n cap q24 bb24) := hr
                    clear hqq hz hf hr hk HE3 HK3 HR3
                    have HE4 : Hid ((x24.setCell ⟨E, 3, none⟩ (.int .i64 z24)).heap[E]? = some (.cells #[.int .i64 z21, .int .i64 z22, .int .i64 z23, .int .i64 z24, .int .i64 0] 52)) := (blk_set HEb.out 3 _).trans rfl
                    have HK4 : Hid (B1 g wc (x24.setCell ⟨E, 3, none⟩ (.int .i64 z24))) := HKb.out.put E HEs.out _ _
                    have HR4 : Hid (RS (x24.setCell ⟨E, 3, none⟩ (.int .i64 z24)) g (some ⟨b, off, none⟩) n cap q24 bb24) := HRb.out.put E HEg.out.1 _ _
                    have e3 : x24.cell? ⟨E, 3, none⟩ = some (.int .i64 0) := (blk_cell HEb.out 3).trans rfl
                    have ez := blk_frozen HEb.out
                    clear HEb HKb HRb
                    go_wp2_with fail
                    clear e3 ez
                    refine (rnum_any g (some ⟨b, off, none⟩) n cap q24 bb24 bs _ HR4.out (HB.out.b1 (P2B.out.b1.trans HK4.out)) HN.out hn2 hq24).mono ?_
                    rintro e x25 ⟨z25, q25, bb25, rfl, hz, hr, hk, hm25, hq25, hf, hqq⟩
                    have HQ5 : Hid (∀ x r0, I64 x → bs.drop q24 = numL x ++ r0 → z25 = x ∧ bs.drop q25 = r0 ∧ bb25 = bb24) := hqq
                    have HZ5 : Hid (I64 z25) := hz
                    have HG5 : Hid (bb25 = false → bb24 = false ∧ q2 < q25) := fun h => by have := hf h; have h2 := HG4.out this.1; exact ⟨this.1, by omega⟩
                    have HEb : Hid (x25.heap[E]? = some (.cells #[.int .i64 z21, .int .i64 z22, .int .i64 z23, .int .i64 z24, .int .i64 0] 52)) := hk.blk HE4.out HEg.out.1
                    have HKb : Hid (B1 g wc x25) := HK4.out.trans hk
                    have HRb : Hid (RS x25 g (some ⟨b, off, none⟩) n cap q25 bb25) := hr
                    clear hqq hz hf hr hk HE4 HK4 HR4
                    have HE5 : Hid ((x25.setCell ⟨E, 4, none⟩ (.int .i64 z25)).heap[E]? = some (.cells #[.int .i64 z21, .int .i64 z22, .int .i64 z23, .int .i64 z24, .int .i64 z25] 52)) := (blk_set HEb.out 4 _).trans rfl
                    have HK5 : Hid (B1 g wc (x25.setCell ⟨E, 4, none⟩ (.int .i64 z25))) := HKb.out.put E HEs.out _ _
                    have HR5 : Hid (RS (x25.setCell ⟨E, 4, none⟩ (.int .i64 z25)) g (some ⟨b, off, none⟩) n cap q25 bb25) := HRb.out.put E HEg.out.1 _ _
                    have e0 : x25.cell? ⟨E, 0, none⟩ = some (.int .i64 z21) := (blk_cell HEb.out 0).trans rfl
                    have e1 : x25.cell? ⟨E, 1, none⟩ = some (.int .i64 z22) := (blk_cell HEb.out 1).trans rfl
                    have e2 : x25.cell? ⟨E, 2, none⟩ = some (.int .i64 z23) := (blk_cell HEb.out 2).trans rfl
                    have e3 : x25.cell? ⟨E, 3, none⟩ = some (.int .i64 z24) := (blk_cell HEb.out 3).trans rfl
                    have e4 : x25.cell? ⟨E, 4, none⟩ = some (.int .i64 0) := (blk_cell HEb.out 4).trans rfl
                    have ez := blk_frozen HEb.out
                    have P9 : Hid (PW w g (some ⟨b, off, none⟩) n cap G J D2 sv0 sv1 sv2 (.slice none 0 0) q25 bb25 (x25.setCell ⟨E, 4, none⟩ (.int .i64 z25))) := P2B.out.step HK5.out HR5.out
                    have j5 : x25.cell? ⟨J, 7, none⟩ = some sv2 := (blk_cell (HKb.out.blk P2B.out.hJ (by have := P2B.out.lg; have := P2B.out.lJ; omega)) 7).trans rfl
                    have P10 : Hid (PW w g (some ⟨b, off, none⟩) n cap G J D2 sv0 sv1 sv2 (.slice none 0 0) q25 bb25 ((x25.setCell ⟨E, 4, none⟩ (.int .i64 z25)).alloc (.cells #[.int .i64 z21, .int .i64 z22, .int .i64 z23, .int .i64 z24, .int .i64 z25] 52))) := P9.out.later (bw1 _ _)
                    obtain ⟨gs, cs, w11, HA, hJ11, P11⟩ := P10.out.app_i ⟨z21, z22, z23, z24, z25⟩ x25.heap.size 47 (blk_newn (by simp) _) (by have := HL.out; omega)
                    have HF9 : Hid (bb25 = false → p + D2.ins.length + 1 < q25) := fun h => by have h1 := (HG5.out h).2; have h2 := HF2B.out HB7.out; omega
                    clear HEb HKb HRb
                    have j6 : w11.cell? ⟨J, 7, none⟩ = some sv2 := (blk_cell hJ11 7).trans rfl
                    have jz := blk_frozen hJ11
                    clear hJ11 P9 P10
                    go_wp2_with (at_builtin; refine wpList_append_run rfl _ _ _ rfl _ _ _ _ rfl rfl HA.out ?_)
                    go_roundg (gk - 1)
                    case measure => omega
                    case rel =>
                      refine ⟨_, _, q25, bb25, ?_, by omega, by omega, hq25, ?_, P11, ?_, (fun h => by have := HF9.out h; simp only [List.length_append, List.length_cons, List.length_nil]; omega), ?_⟩
                      · congr 1; omega
                      · show _ ≤ _; have := HL.out; simp only [List.length_append, List.length_cons, List.length_nil]; omega
                      · exact ⟨HI2.out.name, HI2.out.line, HI2.out.params, HI2.out.regs, HI2.out.ups, HI2.out.consts, fun u hu => by rcases List.mem_append.1 hu with hu | hu; exact HI2.out.ins u hu; (obtain rfl : u = _ := by simpa using hu); exact ⟨HZ1.out, HZ2.out, HZ3.out, HZ4.out, HZ5.out⟩, HI2.out.named, HI2.out.lu, HI2.out.lc, by have := HL.out; simp only [List.length_append, List.length_cons, List.length_nil]; omega, HI2.out.ln⟩
                      · intro x r0 hx hbd hd
                        obtain ⟨a1, a2, a3, a4⟩ := HT2B.out x r0 hx hbd hd
                        have hlt : D2.ins.length < x.ins.length := by omega
                        obtain ⟨u, hu⟩ : ∃ u, x.ins[D2.ins.length]? = some u := ⟨_, List.getElem?_eq_getElem hlt⟩
                        rw [flatMap_drop stepL hu, List.append_assoc] at a4
                        rw [stepL] at a4
                        simp only [List.append_assoc] at a4
                        obtain ⟨y1, g1, o1⟩ := HQ1.out _ _ (hx.ins u (List.mem_of_getElem? hu)).1 a4
                        obtain ⟨y2, g2, o2⟩ := HQ2.out _ _ (hx.ins u (List.mem_of_getElem? hu)).2.1 g1
                        obtain ⟨y3, g3, o3⟩ := HQ3.out _ _ (hx.ins u (List.mem_of_getElem? hu)).2.2.1 g2
                        obtain ⟨y4, g4, o4⟩ := HQ4.out _ _ (hx.ins u (List.mem_of_getElem? hu)).2.2.2.1 g3
                        obtain ⟨y5, g5, o5⟩ := HQ5.out _ _ (hx.ins u (List.mem_of_getElem? hu)).2.2.2.2 g4
                        have hue : (⟨z21, z22, z23, z24, z25⟩ : ID) = u := by cases u; simp only at y1 y2 y3 y4 y5; rw [y1, y2, y3, y4, y5]
                        have c2 := g5
                        have hbad : bb25 = false := by rw [o5, o4, o3, o2, o1, a1]
                        rw [hue]
                        refine ⟨hbad, by simp only [List.length_append, List.length_cons, List.length_nil]; omega, ?_, by simp only [List.length_append, List.length_cons, List.length_nil]; exact c2⟩
                        have : x.ins.take (D2.ins.length + 1) = x.ins.take D2.ins.length ++ [u] := by rw [List.take_add_one, hu]; rfl
                        simp only [List.length_append, List.length_cons, List.length_nil, Nat.zero_add]
                        rw [this]
                        have h5 : D2.ins = x.ins.take D2.ins.length := congrArg FD.ins a3
                        have h6 := a3
                        rw [← h5] at h6 ⊢
                        exact congrArg (fun y : FD => { y with ins := D2.ins ++ [u] }) h6
                  | false =>
                    have HTX2 : Hid (∀ x r0, FOk x → bd = false → bs.drop p = protoL x ++ r0 → D2 = hd8 x ∧ bs.drop q2 = R8 x ++ r0 ∧ bb2 = false) := by
                      intro x r0 hx hbd hd
                      obtain ⟨a1, a2, a3, a4⟩ := HT2B.out x r0 hx hbd hd
                      have hz : gk = 0 := by have := HBQ.out; rw [a1] at this; simp at this; omega
                      have hl : D2.ins.length = x.ins.length := by omega
                      rw [hl, List.drop_length] at a4
                      rw [hl, List.take_length] at a3
                      exact ⟨a3, a4, a1⟩
                    clear HT2B HL HBQ
                    go_wp2_with fail
                    refine (rcount_any g (some ⟨b, off, none⟩) n cap q2 bb2 bs _ P2B.out.rs (HB.out.b1 P2B.out.b1) HN.out hn2 hq2).mono ?_
                    rintro e v3 ⟨k3, rr3, bc3, rfl, hr, hk, hqa3, hqb3, hf, hq⟩
                    have PA3 : Hid (PW w g (some ⟨b, off, none⟩) n cap G J D2 sv0 sv1 sv2 (.slice none 0 0) rr3 bc3 v3) := P2B.out.step hk hr
                    have HFA3 : Hid (bc3 = false → p + D2.ins.length < rr3) := fun h => by have := hf h; have := HF2B.out this.1; omega
                    have HU : D2.named = [] := PA3.out.rn.none
                    have HTA3 : Hid (∀ x r0, FOk x → bd = false → bs.drop p = protoL x ++ r0 → bc3 = false ∧ k3 + D2.named.length = x.named.length ∧ D2 = { hd8 x with named := x.named.take D2.named.length } ∧ bs.drop rr3 = (x.named.drop D2.named.length).flatMap namedL ++ (R9 x ++ r0)) := by
                      intro x r0 hx hbd hd
                      obtain ⟨a1, a2, a3⟩ := HTX2.out x r0 hx hbd hd
                      have hg := flat_ge namedL (fun u => by have := numL_ge u.reg; simp only [namedL, List.length_append]; omega) x.named
                      obtain ⟨b1, b2, b3⟩ := hq x.named.length (x.named.flatMap namedL ++ (R9 x ++ r0)) (by rw [List.length_append]; omega) (by rw [a2, R8, listL]; simp only [List.append_assoc])
                      rw [HU]
                      exact ⟨by rw [b3, a3], by rw [b1]; rfl, a1, b2⟩
                    have hk3 : k3 ≤ 1000000 := by omega
                    have HLA3 : Hid (k3 + D2.named.length ≤ 1000000) := by show _ ≤ _; rw [HU]; exact hk3
                    clear hr hk P2B HTX2 HF2B hf hq HU
                    go_wp2_with fail
                    go_loopg [10] k3 (fun m s4 wr => ∃ (d : FD) (sv3 : Value) (p7 : Nat) (bd7 : Bool), s4 = .int .i64 (m : Int) ∧ m ≤ 1000000 ∧ p ≤ p7 ∧ p7 ≤ n ∧ Hid (m + d.named.length ≤ 1000000) ∧ Hid (PW w g (some ⟨b, off, none⟩) n cap G J d sv0 sv1 sv2 sv3 p7 bd7 wr) ∧ Hid (DI n d) ∧ Hid (bd7 = false → p + d.ins.length < p7) ∧ Hid (∀ x r0, FOk x → bd = false → bs.drop p = protoL x ++ r0 → bd7 = false ∧ m + d.named.length = x.named.length ∧ d = { hd8 x with named := x.named.take d.named.length } ∧ bs.drop p7 = (x.named.drop d.named.length).flatMap namedL ++ (R9 x ++ r0)))
                    case atStart => exact ⟨D2, (.slice none 0 0), rr3, bc3, rfl, hk3, by omega, by omega, HLA3, PA3, HI2, HFA3, HTA3⟩
                    case round =>
                      clear PA3 HI2 HFA3 HTA3 HLA3
                      obtain ⟨D3, sv3, q3, bb3, rfl, hm3, hp73, hq3, HL, P3B, HI3, HF3B, HT3B⟩ := hrel
                      obtain ⟨bq, hbq⟩ : ∃ bq : Bool, bq = (decide (0 < gk) && !bb3) := ⟨_, rfl⟩
                      have HBQ : Hid (bq = (decide (0 < gk) && !bb3)) := hbq
                      clear hbq
                      go_upto_region 30 with fail
                      go_cut [119] (fun s38 wx => s38 = .bool bq ∧ wx = wr)
                      case first =>
                        have r2 : wr.cell? ⟨g, 2, none⟩ = some (.bool bb3) := (blk_cell P3B.out.rs 2).trans rfl
                        by_cases k1 : 0 < gk
                        · have k2 : (0 : Int) < (gk : Int) := by omega
                          go_wp2_with fail
                          go_meet
                          case rel => exact ⟨by rw [HBQ.out]; simp [k1], rfl⟩
                        · obtain rfl : gk = 0 := by omega
                          go_wp2_with fail
                          go_meet
                          case rel => exact ⟨by rw [HBQ.out]; simp, rfl⟩
                      case rest =>
                        obtain ⟨rfl, rfl⟩ := hcut
                        cases bq with
                        | true =>
                          have hb7 : 0 < gk ∧ bb3 = false := by have := HBQ.out; simpa using this.symm
                          obtain ⟨hgk, hbd7⟩ := hb7
                          have HB7 : Hid (bb3 = false) := hbd7
                          clear HBQ hbd7
                          go_wp2_with fail
                          have hy := bw1 wc (.cells #[.string ⟨#[]⟩, .int .i64 0, .int .i64 0, .int .i64 0] 116)
                          have HEg : Hid (wc.heap.size ≠ g ∧ wc.heap.size ≤ wc.heap.size) := ⟨by have := blk_lt P3B.out.rs; omega, by omega⟩
                          have HK0 : Hid (B1 g wc (wc.alloc (.cells #[.string ⟨#[]⟩, .int .i64 0, .int .i64 0, .int .i64 0] 116))) := B1.of_below hy
                          have HR0 : Hid (RS (wc.alloc (.cells #[.string ⟨#[]⟩, .int .i64 0, .int .i64 0, .int .i64 0] 116)) g (some ⟨b, off, none⟩) n cap q3 bb3 ) := RS.later P3B.out.rs hy
                          have HE0 : Hid ((wc.alloc (.cells #[.string ⟨#[]⟩, .int .i64 0, .int .i64 0, .int .i64 0] 116)).heap[wc.heap.size]? = some (.cells #[.string ⟨#[]⟩, .int .i64 0, .int .i64 0, .int .i64 0] 116)) := blk_new _ _
                          refine (rtext_any g b off n cap q3 bb3 bs _ HR0.out (HB.out.b1 (P3B.out.b1.trans HK0.out)) HN.out hn2 hcap HM.out hq3).mono ?_
                          rintro e x31 ⟨z31, q31, bb31, rfl, hz, hr, hk, hm31, hq31, hf, hqq⟩
                          obtain ⟨E, hE⟩ : ∃ E, E = wc.heap.size := ⟨_, rfl⟩
                          rw [← hE]
                          rw [← hE] at HE0 HEg
                          have HEs : Hid (wc.heap.size ≤ E) := by show _ ≤ _; omega
                          have hEJ : E ≠ J := by have := blk_lt P3B.out.hJ; omega
                          have hJE : J ≠ E := fun h => hEJ h.symm
                          clear hE hy
                          have HQ1 : Hid (∀ t r0, bs.drop q3 = textL t ++ r0 → z31 = t ∧ bs.drop q31 = r0 ∧ bb31 = bb3) := hqq
                          have HZ1 : Hid (z31.size ≤ n) := hz
                          have HG1 : Hid (bb31 = false → bb3 = false ∧ q3 < q31) := fun h => by have := hf h; exact this
                          have HEb : Hid (x31.heap[E]? = some (.cells #[.string ⟨#[]⟩, .int .i64 0, .int .i64 0, .int .i64 0] 116)) := hk.blk HE0.out HEg.out.1
                          have HKb : Hid (B1 g wc x31) := HK0.out.trans hk
                          have HRb : Hid (RS x31 g (some ⟨b, off, none⟩) n cap q31 bb31) := hr
                          clear hqq hz hf hr hk HE0 HK0 HR0
                          have HE1 : Hid ((x31.setCell ⟨E, 0, none⟩ (.string z31)).heap[E]? = some (.cells #[.string z31, .int .i64 0, .int .i64 0, .int .i64 0] 116)) := (blk_set HEb.out 0 _).trans rfl
                          have HK1 : Hid (B1 g wc (x31.setCell ⟨E, 0, none⟩ (.string z31))) := HKb.out.put E HEs.out _ _
                          have HR1 : Hid (RS (x31.setCell ⟨E, 0, none⟩ (.string z31)) g (some ⟨b, off, none⟩) n cap q31 bb31) := HRb.out.put E HEg.out.1 _ _
                          have e0 : x31.cell? ⟨E, 0, none⟩ = some (.string ⟨#[]⟩) := (blk_cell HEb.out 0).trans rfl
                          have ez := blk_frozen HEb.out
                          clear HEb HKb HRb
                          go_wp2_with fail
                          clear e0 ez
                          refine (rnum_any g (some ⟨b, off, none⟩) n cap q31 bb31 bs _ HR1.out (HB.out.b1 (P3B.out.b1.trans HK1.out)) HN.out hn2 hq31).mono ?_
                          rintro e x32 ⟨z32, q32, bb32, rfl, hz, hr, hk, hm32, hq32, hf, hqq⟩
                          have HQ2 : Hid (∀ x r0, I64 x → bs.drop q31 = numL x ++ r0 → z32 = x ∧ bs.drop q32 = r0 ∧ bb32 = bb31) := hqq
                          have HZ2 : Hid (I64 z32) := hz
                          have HG2 : Hid (bb32 = false → bb31 = false ∧ q3 < q32) := fun h => by have := hf h; have h2 := HG1.out this.1; exact ⟨this.1, by omega⟩
                          have HEb : Hid (x32.heap[E]? = some (.cells #[.string z31, .int .i64 0, .int .i64 0, .int .i64 0] 116)) := hk.blk HE1.out HEg.out.1
                          have HKb : Hid (B1 g wc x32) := HK1.out.trans hk
                          have HRb : Hid (RS x32 g (some ⟨b, off, none⟩) n cap q32 bb32) := hr
                          clear hqq hz hf hr hk HE1 HK1 HR1
                          have HE2 : Hid ((x32.setCell ⟨E, 1, none⟩ (.int .i64 z32)).heap[E]? = some (.cells #[.string z31, .int .i64 z32, .int .i64 0, .int .i64 0] 116)) := (blk_set HEb.out 1 _).trans rfl
                          have HK2 : Hid (B1 g wc (x32.setCell ⟨E, 1, none⟩ (.int .i64 z32))) := HKb.out.put E HEs.out _ _
                          have HR2 : Hid (RS (x32.setCell ⟨E, 1, none⟩ (.int .i64 z32)) g (some ⟨b, off, none⟩) n cap q32 bb32) := HRb.out.put E HEg.out.1 _ _
                          have e1 : x32.cell? ⟨E, 1, none⟩ = some (.int .i64 0) := (blk_cell HEb.out 1).trans rfl
                          have ez := blk_frozen HEb.out
                          clear HEb HKb HRb
                          go_wp2_with fail
                          clear e1 ez
                          refine (rnum_any g (some ⟨b, off, none⟩) n cap q32 bb32 bs _ HR2.out (HB.out.b1 (P3B.out.b1.trans HK2.out)) HN.out hn2 hq32).mono ?_
                          rintro e x33 ⟨z33, q33, bb33, rfl, hz, hr, hk, hm33, hq33, hf, hqq⟩
                          have HQ3 : Hid (∀ x r0, I64 x → bs.drop q32 = numL x ++ r0 → z33 = x ∧ bs.drop q33 = r0 ∧ bb33 = bb32) := hqq
                          have HZ3 : Hid (I64 z33) := hz
                          have HG3 : Hid (bb33 = false → bb32 = false ∧ q3 < q33) := fun h => by have := hf h; have h2 := HG2.out this.1; exact ⟨this.1, by omega⟩
                          have HEb : Hid (x33.heap[E]? = some (.cells #[.string z31, .int .i64 z32, .int .i64 0, .int .i64 0] 116)) := hk.blk HE2.out HEg.out.1
                          have HKb : Hid (B1 g wc x33) := HK2.out.trans hk
                          have HRb : Hid (RS x33 g (some ⟨b, off, none⟩) n cap q33 bb33) := hr
                          clear hqq hz hf hr hk HE2 HK2 HR2
                          have HE3 : Hid ((x33.setCell ⟨E, 2, none⟩ (.int .i64 z33)).heap[E]? = some (.cells #[.string z31, .int .i64 z32, .int .i64 z33, .int .i64 0] 116)) := (blk_set HEb.out 2 _).trans rfl
                          have HK3 : Hid (B1 g wc (x33.setCell ⟨E, 2, none⟩ (.int .i64 z33))) := HKb.out.put E HEs.out _ _
                          have HR3 : Hid (RS (x33.setCell ⟨E, 2, none⟩ (.int .i64 z33)) g (some ⟨b, off, none⟩) n cap q33 bb33) := HRb.out.put E HEg.out.1 _ _
                          have e2 : x33.cell? ⟨E, 2, none⟩ = some (.int .i64 0) := (blk_cell HEb.out 2).trans rfl
                          have ez := blk_frozen HEb.out
                          clear HEb HKb HRb
                          go_wp2_with fail
                          clear e2 ez
                          refine (rnum_any g (some ⟨b, off, none⟩) n cap q33 bb33 bs _ HR3.out (HB.out.b1 (P3B.out.b1.trans HK3.out)) HN.out hn2 hq33).mono ?_
                          rintro e x34 ⟨z34, q34, bb34, rfl, hz, hr, hk, hm34, hq34, hf, hqq⟩
                          have HQ4 : Hid (∀ x r0, I64 x → bs.drop q33 = numL x ++ r0 → z34 = x ∧ bs.drop q34 = r0 ∧ bb34 = bb33) := hqq
                          have HZ4 : Hid (I64 z34) := hz
                          have HG4 : Hid (bb34 = false → bb33 = false ∧ q3 < q34) := fun h => by have := hf h; have h2 := HG3.out this.1; exact ⟨this.1, by omega⟩
                          have HEb : Hid (x34.heap[E]? = some (.cells #[.string z31, .int .i64 z32, .int .i64 z33, .int .i64 0] 116)) := hk.blk HE3.out HEg.out.1
                          have HKb : Hid (B1 g wc x34) := HK3.out.trans hk
                          have HRb : Hid (RS x34 g (some ⟨b, off, none⟩) n cap q34 bb34) := hr
                          clear hqq hz hf hr hk HE3 HK3 HR3
                          have HE4 : Hid ((x34.setCell ⟨E, 3, none⟩ (.int .i64 z34)).heap[E]? = some (.cells #[.string z31, .int .i64 z32, .int .i64 z33, .int .i64 z34] 116)) := (blk_set HEb.out 3 _).trans rfl
                          have HK4 : Hid (B1 g wc (x34.setCell ⟨E, 3, none⟩ (.int .i64 z34))) := HKb.out.put E HEs.out _ _
                          have HR4 : Hid (RS (x34.setCell ⟨E, 3, none⟩ (.int .i64 z34)) g (some ⟨b, off, none⟩) n cap q34 bb34) := HRb.out.put E HEg.out.1 _ _
                          have e0 : x34.cell? ⟨E, 0, none⟩ = some (.string z31) := (blk_cell HEb.out 0).trans rfl
                          have e1 : x34.cell? ⟨E, 1, none⟩ = some (.int .i64 z32) := (blk_cell HEb.out 1).trans rfl
                          have e2 : x34.cell? ⟨E, 2, none⟩ = some (.int .i64 z33) := (blk_cell HEb.out 2).trans rfl
                          have e3 : x34.cell? ⟨E, 3, none⟩ = some (.int .i64 0) := (blk_cell HEb.out 3).trans rfl
                          have ez := blk_frozen HEb.out
                          have P9 : Hid (PW w g (some ⟨b, off, none⟩) n cap G J D3 sv0 sv1 sv2 sv3 q34 bb34 (x34.setCell ⟨E, 3, none⟩ (.int .i64 z34))) := P3B.out.step HK4.out HR4.out
                          have j5 : x34.cell? ⟨J, 8, none⟩ = some sv3 := (blk_cell (HKb.out.blk P3B.out.hJ (by have := P3B.out.lg; have := P3B.out.lJ; omega)) 8).trans rfl
                          have P10 : Hid (PW w g (some ⟨b, off, none⟩) n cap G J D3 sv0 sv1 sv2 sv3 q34 bb34 ((x34.setCell ⟨E, 3, none⟩ (.int .i64 z34)).alloc (.cells #[.string z31, .int .i64 z32, .int .i64 z33, .int .i64 z34] 116))) := P9.out.later (bw1 _ _)
                          obtain ⟨gs, cs, w11, HA, hJ11, P11⟩ := P10.out.app_n ⟨z31, z32, z33, z34⟩ x34.heap.size 48 (blk_newn (by simp) _) (by have := HL.out; omega)
                          have HF9 : Hid (bb34 = false → p + D3.ins.length + 1 < q34) := fun h => by have h1 := (HG4.out h).2; have h2 := HF3B.out HB7.out; omega
                          clear HEb HKb HRb
                          have j6 : w11.cell? ⟨J, 8, none⟩ = some sv3 := (blk_cell hJ11 8).trans rfl
                          have jz := blk_frozen hJ11
                          clear hJ11 P9 P10
                          go_wp2_with (at_builtin; refine wpList_append_run rfl _ _ _ rfl _ _ _ _ rfl rfl HA.out ?_)
                          go_roundg (gk - 1)
                          case measure => omega
                          case rel =>
                            refine ⟨_, _, q34, bb34, ?_, by omega, by omega, hq34, ?_, P11, ?_, (fun h => by have := HF9.out h; show p + D3.ins.length < _; omega), ?_⟩
                            · congr 1; omega
                            · show _ ≤ _; have := HL.out; simp only [List.length_append, List.length_cons, List.length_nil]; omega
                            · exact ⟨HI3.out.name, HI3.out.line, HI3.out.params, HI3.out.regs, HI3.out.ups, HI3.out.consts, HI3.out.ins, fun u hu => by rcases List.mem_append.1 hu with hu | hu; exact HI3.out.named u hu; (obtain rfl : u = _ := by simpa using hu); exact ⟨HZ1.out, HZ2.out, HZ3.out, HZ4.out⟩, HI3.out.lu, HI3.out.lc, HI3.out.li, by have := HL.out; simp only [List.length_append, List.length_cons, List.length_nil]; omega⟩
                            · intro x r0 hx hbd hd
                              obtain ⟨a1, a2, a3, a4⟩ := HT3B.out x r0 hx hbd hd
                              have hlt : D3.named.length < x.named.length := by omega
                              obtain ⟨u, hu⟩ : ∃ u, x.named[D3.named.length]? = some u := ⟨_, List.getElem?_eq_getElem hlt⟩
                              rw [flatMap_drop namedL hu, List.append_assoc] at a4
                              rw [namedL] at a4
                              simp only [List.append_assoc] at a4
                              obtain ⟨y1, g1, o1⟩ := HQ1.out _ _ a4
                              obtain ⟨y2, g2, o2⟩ := HQ2.out _ _ (hx.named u (List.mem_of_getElem? hu)).1 g1
                              obtain ⟨y3, g3, o3⟩ := HQ3.out _ _ (hx.named u (List.mem_of_getElem? hu)).2.1 g2
                              obtain ⟨y4, g4, o4⟩ := HQ4.out _ _ (hx.named u (List.mem_of_getElem? hu)).2.2 g3
                              have hue : (⟨z31, z32, z33, z34⟩ : ND) = u := by cases u; simp only at y1 y2 y3 y4; rw [y1, y2, y3, y4]
                              have c2 := g4
                              have hbad : bb34 = false := by rw [o4, o3, o2, o1, a1]
                              rw [hue]
                              refine ⟨hbad, by simp only [List.length_append, List.length_cons, List.length_nil]; omega, ?_, by simp only [List.length_append, List.length_cons, List.length_nil]; exact c2⟩
                              have : x.named.take (D3.named.length + 1) = x.named.take D3.named.length ++ [u] := by rw [List.take_add_one, hu]; rfl
                              simp only [List.length_append, List.length_cons, List.length_nil, Nat.zero_add]
                              rw [this]
                              have h5 : D3.named = x.named.take D3.named.length := congrArg FD.named a3
                              have h6 := a3
                              rw [← h5] at h6 ⊢
                              exact congrArg (fun y : FD => { y with named := D3.named ++ [u] }) h6
                        | false =>
                          have HTX3 : Hid (∀ x r0, FOk x → bd = false → bs.drop p = protoL x ++ r0 → D3 = hd9 x ∧ bs.drop q3 = R9 x ++ r0 ∧ bb3 = false) := by
                            intro x r0 hx hbd hd
                            obtain ⟨a1, a2, a3, a4⟩ := HT3B.out x r0 hx hbd hd
                            have hz : gk = 0 := by have := HBQ.out; rw [a1] at this; simp at this; omega
                            have hl : D3.named.length = x.named.length := by omega
                            rw [hl, List.drop_length] at a4
                            rw [hl, List.take_length] at a3
                            exact ⟨a3, a4, a1⟩
                          clear HT3B HL HBQ
                          obtain ⟨a0, b0, h0⟩ := P3B.out.ru.val
                          obtain ⟨a1, b1, h1⟩ := P3B.out.rc.val
                          obtain ⟨a2, b2, h2⟩ := P3B.out.ri.val
                          obtain ⟨a3, b3, h3⟩ := P3B.out.rn.val
                          subst h0 h1 h2 h3
                          have hGJ := P3B.out.ne
                          have hJG : J ≠ G := fun h => hGJ h.symm
                          have j0 : wc.cell? ⟨J, 0, none⟩ = some (.string D3.name) := (blk_cell P3B.out.hJ 0).trans rfl
                          have j1 : wc.cell? ⟨J, 1, none⟩ = some (.int .i64 D3.line) := (blk_cell P3B.out.hJ 1).trans rfl
                          have j2 : wc.cell? ⟨J, 2, none⟩ = some (.int .i64 D3.params) := (blk_cell P3B.out.hJ 2).trans rfl
                          have j3 : wc.cell? ⟨J, 3, none⟩ = some (.bool D3.rest) := (blk_cell P3B.out.hJ 3).trans rfl
                          have j4 : wc.cell? ⟨J, 4, none⟩ = some (.int .i64 D3.regs) := (blk_cell P3B.out.hJ 4).trans rfl
                          have j5 : wc.cell? ⟨J, 5, none⟩ = some (.slice a0 D3.ups.length b0) := (blk_cell P3B.out.hJ 5).trans rfl
                          have j6 : wc.cell? ⟨J, 6, none⟩ = some (.slice a1 D3.consts.length b1) := (blk_cell P3B.out.hJ 6).trans rfl
                          have j7 : wc.cell? ⟨J, 7, none⟩ = some (.slice a2 D3.ins.length b2) := (blk_cell P3B.out.hJ 7).trans rfl
                          have j8 : wc.cell? ⟨J, 8, none⟩ = some (.slice a3 D3.named.length b3) := (blk_cell P3B.out.hJ 8).trans rfl
                          have g0 : wc.cell? ⟨G, 0, none⟩ = some (.string ⟨#[]⟩) := (blk_cell P3B.out.hG 0).trans rfl
                          have g1 : wc.cell? ⟨G, 1, none⟩ = some (.int .i64 0) := (blk_cell P3B.out.hG 1).trans rfl
                          have g2 : wc.cell? ⟨G, 2, none⟩ = some (.int .i64 0) := (blk_cell P3B.out.hG 2).trans rfl
                          have g3 : wc.cell? ⟨G, 3, none⟩ = some (.bool false) := (blk_cell P3B.out.hG 3).trans rfl
                          have g4 : wc.cell? ⟨G, 4, none⟩ = some (.int .i64 0) := (blk_cell P3B.out.hG 4).trans rfl
                          have g5 : wc.cell? ⟨G, 5, none⟩ = some (.slice none 0 0) := (blk_cell P3B.out.hG 5).trans rfl
                          have g6 : wc.cell? ⟨G, 6, none⟩ = some (.slice none 0 0) := (blk_cell P3B.out.hG 6).trans rfl
                          have g7 : wc.cell? ⟨G, 7, none⟩ = some (.slice none 0 0) := (blk_cell P3B.out.hG 7).trans rfl
                          have g8 : wc.cell? ⟨G, 8, none⟩ = some (.slice none 0 0) := (blk_cell P3B.out.hG 8).trans rfl
                          have jz := blk_frozen P3B.out.hJ
                          have gz := blk_frozen P3B.out.hG
                          go_wp2_with fail
                          refine bodyPost_ret (v := .agg #[.string D3.name, .int .i64 D3.line, .int .i64 D3.params, .bool D3.rest, .int .i64 D3.regs, .slice a0 D3.ups.length b0, .slice a1 D3.consts.length b1, .slice a2 D3.ins.length b2, .slice a3 D3.named.length b3]) (by simp [results, Tryz.results38, go_sem, g0, g1, g2, g3, g4, g5, g6, g7, g8]) rfl ?_
                          have Q := ((((((((P3B.out.q.put 0 (.string D3.name)).put 1 (.int .i64 D3.line)).put 2 (.int .i64 D3.params)).put 3 (.bool D3.rest)).put 4 (.int .i64 D3.regs)).put 5 (.slice a0 D3.ups.length b0)).put 6 (.slice a1 D3.consts.length b1)).put 7 (.slice a2 D3.ins.length b2)).put 8 (.slice a3 D3.named.length b3)
                          refine ⟨D3, _, _, _, _, q3, bb3, rfl, HI3.out, Q.ru, Q.rc, Q.ri, Q.rn, Q.rs, Q.b1, hp73, hq3, HF3B.out, fun x r0 hx hbd hd => ?_⟩
                          obtain ⟨a1, a2, a3⟩ := HTX3.out x r0 hx hbd hd
                          exact ⟨a1, a2, a3⟩
end Go.Proofs.YtfkeklndcjkgcaaGreatDoor
