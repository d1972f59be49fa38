import Derived.Test.YtfkeklndcjkgcaaGreatDoorXsB
import Derived.Deep.RegionLaw
/-
  OWN WORK. The program's tape that is read: what an append keeps; heads of protos.
-/
namespace Go.Proofs.YtfkeklndcjkgcaaGreatDoor
open Go.RowKit
attribute [local go_sem] run_store_float
set_option linter.unusedVariables false
set_option linter.unusedSimpArgs false

/-- Something with a size is read into a block, or the tape ends. -/
def GotZ {α : Type} (c : Cx) (p b : Nat) (sz : α → Nat) (res : World → α → Prop) (ok : α → Prop) (enc : α → List UInt8) (w : World) (e : Ending) (w' : World) : Prop :=
  Bs c.t b w w' ∧ ((∃ x p', e = .returned (.tuple #[]) ∧ p + sz x < p' ∧ Rt c w' p' ∧ res w' x ∧ ∀ y r0, ok y → c.bs.drop p = enc y ++ r0 → x = y ∧ c.bs.drop p' = r0) ∨ (e = .panicked CH ∧ ∀ y r0, ok y → c.bs.drop p ≠ enc y ++ r0))

theorem Rt.low {c : Cx} {w w' : World} {p : Nat} (h : Rt c w p) (hk : ∀ j, j < c.B → w'.heap[j]? = w.heap[j]?) (hs : w.heap.size ≤ w'.heap.size) : Rt c w' p :=
  ⟨(hk c.t h.lt).trans h.tp, fun i u hu => (cell_of_block (p := ⟨c.ab, c.off + i, none⟩) (hk c.ab h.lab)).trans (h.bytes i u hu), ⟨(hk c.gp h.lp).trans h.pa.p, (hk c.gm h.lm).trans h.pa.m, h.pa.np, h.pa.nm⟩, h.lab, h.lt, h.lp, h.lm, h.ne, Nat.le_trans h.hB hs, h.hn, h.hn2, h.hcap, h.hcm, h.hp⟩
theorem ORow.rt {α : Type} {c : Cx} {p : Nat} {w w' : World} {B : Nat} {et : TypeId} {k : Nat} {cells : α → List Value} {sv : Value} {xs : List α} (h : ORow w B et k cells sv xs) (hg : w.grownBy w' sv.ownBlock) (hR : Rt c w p) (hB : c.B ≤ B) : Rt c w' p :=
  hR.low (fun j hj => hg.block j (Nat.lt_of_lt_of_le hj hR.hB) (fun he => by have := owns_ge h he.symm; omega)) hg.size
theorem ORow.grow {α : Type} {t b : Nat} {w0 w w' : World} {B : Nat} {et : TypeId} {k : Nat} {cells : α → List Value} {sv : Value} {xs : List α} (h : ORow w B et k cells sv xs) (hb : Bs t b w0 w) (hB : w0.heap.size ≤ B) (hg : w.grownBy w' sv.ownBlock) : Bs t b w0 w' :=
  ⟨hg.os.trans hb.os, hg.tape.trans hb.tape, hg.output.trans hb.output, Nat.le_trans hb.size hg.size, fun j hj h1 h2 => (hg.block j (Nat.lt_of_lt_of_le hj hb.size) (fun he => by have := owns_ge h he.symm; omega)).trans (hb.block j hj h1 h2)⟩
theorem ORow.bs {α : Type} {w w' : World} {B t b : Nat} {et : TypeId} {k : Nat} {cells : α → List Value} {sv : Value} {xs : List α} (h : ORow w B et k cells sv xs) (hb : Bs t b w w') (ht : t < B) (hn : w.heap.size ≤ b) : ORow w' B et k cells sv xs :=
  h.keep fun j arr hj he => hb.block j (blk_lt he) (by omega) (by have := blk_lt he; omega)
/-- A row is kept where the block that is written into has another kind. -/
theorem ORow.bs2 {α : Type} {w w' : World} {B t b : Nat} {et T : TypeId} {k : Nat} {cells : α → List Value} {sv : Value} {xs : List α} {arr : Array Value} {fz : Nat × Nat} (h : ORow w B et k cells sv xs) (hb : Bs t b w w') (ht : t < B) (hn : w.heap[b]? = some (.cells arr T fz)) (hT : T ≠ et) : ORow w' B et k cells sv xs :=
  h.keep fun j ar hj he => hb.block j (blk_lt he) (by omega) (fun hjb => by rw [hjb, hn] at he; cases he; exact hT rfl)
theorem ORow.base {α : Type} {w : World} {B B' : Nat} {et : TypeId} {k : Nat} {cells : α → List Value} {sv : Value} {xs : List α} (h : ORow w B et k cells sv xs) (hB : B' ≤ B) : ORow w B' et k cells sv xs := by
  obtain ⟨h1, h2⟩ := h
  refine ⟨h1, ?_⟩
  rcases h2 with h2 | ⟨g, cap, cur, e1, e2, e3⟩
  · exact .inl h2
  · exact .inr ⟨g, cap, cur, e1, by omega, e3⟩
theorem upL_ge (u : UD) : 1 ≤ (upL u).length := by simp [upL, flagL]
theorem constL_ge (v : VD) : 1 ≤ (constL v).length := by simp [constL]
theorem stepL_ge (u : ID) : 1 ≤ (stepL u).length := by have := numL_ge u.op; simp [stepL]; omega
theorem namedL_ge (u : ND) : 1 ≤ (namedL u).length := by have := numL_ge u.reg; simp [namedL]; omega
theorem protoL_ge (f : FD) : 1 ≤ (protoL f).length := by have := numL_ge f.line; simp [protoL, headE]; omega

abbrev nl : Value := .slice none 0 0
/-- The head of a proto. -/
abbrev HdG (c : Cx) (p b : Nat) (w : World) : Ending → World → Prop := Got c p b (fun W (d : FD) => (d.name.size ≤ c.n ∧ I64 d.line ∧ I64 d.params ∧ I64 d.regs ∧ d = hd5 d) ∧ W.heap[b]? = some (POn d nl nl nl nl)) (fun y => I64 y.line ∧ I64 y.params ∧ I64 y.regs ∧ y = hd5 y) headE w
set_option maxRecDepth 20000 in
set_option maxHeartbeats 8000000 in
theorem rhd_any (c : Cx) (p b : Nat) (w : World) (h : Rt c w p) (hb : w.heap[b]? = some (POn fdZ nl nl nl nl)) (hlb : c.B ≤ b) :
    Calls Tryz.prog 59 #[.pointer (some ⟨c.t, 0, none⟩), .pointer (some ⟨b, 0, none⟩)] w (HdG c p b w) := by
  have HF : Hid _ := rx_any c p b 0 ⟨#[]⟩ _ _ w h hb rfl (by decide) hlb
  clear h hb
  go_enter Tryz.func59, Tryz.ntmps59
  go_wp2_with fail
  refine Calls.mono HF.out ?_
  rintro e w1 ⟨hk, ⟨x, p1, rfl, hpp, hr, ⟨hxs, hbx⟩, hq⟩ | ⟨rfl, hx⟩⟩
  rotate_left
  · refine ⟨rfl, hk, .inr ⟨rfl, fun y r0 hy hd => ?_⟩⟩
    unfold headE at hd
    rw [List.append_assoc] at hd
    exact hx y.name _ trivial hd
  have hb1 : w1.heap[b]? = some (.cells #[.string x, .int .i64 0, .int .i64 0, .bool false, .int .i64 0, nl, nl, nl, nl] 50) := hbx
  have HW : Hid _ := rw_drew c p1 b [1, 2] _ 50 2 rfl (by omega) (by omega) w1 hr hb1 hlb (fun o ho => by
    simp only [List.mem_cons, List.not_mem_nil, or_false] at ho
    rcases ho with rfl | rfl <;> exact ⟨0, rfl⟩)
  have HQ : Hid (∀ y r0, True → c.bs.drop p = textL y ++ r0 → x = y ∧ c.bs.drop p1 = r0) := hq
  have HK1 : Hid (Bs c.t b w w1) := hk
  clear hr hb1 hbx HF hq hk
  go_wp2_with fail
  go_region_with (go_at_call 110; refine Calls.mono HW.out ?_; rintro e w2 ⟨hk2, ⟨zs, p2, rfl, hpp2, hr2, ⟨hzl, hzi, hbz⟩, hq2⟩ | ⟨rfl, hx⟩⟩; rotate_left; exact ⟨rfl, HK1.out.trans hk2, .inr ⟨rfl, fun y r0 hy hd => by
      unfold headE at hd
      simp only [List.append_assoc] at hd
      obtain ⟨g1, g2⟩ := HQ.out y.name _ trivial hd
      exact hx [y.line, y.params] _ ⟨rfl, by simpa using ⟨hy.1, hy.2.1⟩⟩ (by simpa using g2)⟩⟩)
  obtain ⟨z0, z1, rfl⟩ := len2 hzl
  have hb2 : w2.heap[b]? = some (.cells #[.string x, .int .i64 z0, .int .i64 z1, .bool false, .int .i64 0, nl, nl, nl, nl] 50) := hbz
  have HF : Hid _ := rf_any c p2 b 3 false _ _ w2 hr2 hb2 rfl hlb
  have HQ2 : Hid _ := hq2
  have HK2 : Hid (Bs c.t b w w2) := HK1.out.trans hk2
  have hZ : I64 z0 ∧ I64 z1 := by simpa using hzi
  have HZ : Hid (I64 z0 ∧ I64 z1) := hZ
  clear hZ
  have HQQ : Hid (∀ (y : FD) r0, (I64 y.line ∧ I64 y.params ∧ I64 y.regs ∧ y = hd5 y) → c.bs.drop p = headE y ++ r0 → (x = y.name ∧ z0 = y.line ∧ z1 = y.params) ∧ c.bs.drop p2 = flagL y.rest ++ (numL y.regs ++ r0)) := fun y r0 hy hd => by
    unfold headE at hd
    simp only [List.append_assoc] at hd
    obtain ⟨g1, g2⟩ := HQ.out y.name _ trivial hd
    obtain ⟨g3, g4⟩ := hq2 [y.line, y.params] _ ⟨rfl, by simpa using ⟨hy.1, hy.2.1⟩⟩ (by simpa using g2)
    cases g3
    exact ⟨⟨g1, rfl, rfl⟩, g4⟩
  clear hr2 hb2 hbz hq2 hk2 HK1 HQ HW HQ2 hzi
  go_wp2_with fail
  refine Calls.mono HF.out ?_
  rintro e w3 ⟨hk3, ⟨fb, p3, rfl, hpp3, hr3, hbf, hq3⟩ | ⟨rfl, hx⟩⟩
  rotate_left
  · refine ⟨rfl, HK2.out.trans hk3, .inr ⟨rfl, fun y r0 hy hd => ?_⟩⟩
    obtain ⟨g1, g2⟩ := HQQ.out y r0 hy hd
    exact hx y.rest _ trivial g2
  have hb3 : w3.heap[b]? = some (.cells #[.string x, .int .i64 z0, .int .i64 z1, .bool fb, .int .i64 0, nl, nl, nl, nl] 50) := hbf
  have HW : Hid _ := rw_new c p3 b [4] _ 50 1 rfl (by omega) (by omega) w3 hr3 hb3 hlb (fun o ho => by
    obtain rfl : o = 4 := by simpa using ho
    exact ⟨0, rfl⟩)
  have HQ3 : Hid (∀ y r0, True → c.bs.drop p2 = flagL y ++ r0 → fb = y ∧ c.bs.drop p3 = r0) := hq3
  have HK3 : Hid (Bs c.t b w w3) := HK2.out.trans hk3
  clear hr3 hb3 hbf hq3 hk3 HK2 HF
  go_wp2_with fail
  refine Calls.mono HW.out ?_
  rintro e w4 ⟨hk4, ⟨zs, p4, rfl, hpp4, hr4, ⟨hzl4, hzi4, hbz4⟩, hq4⟩ | ⟨rfl, hx⟩⟩
  · obtain ⟨z2, rfl⟩ := len1 hzl4
    go_wp2_with fail
    go_end0
    refine ⟨HK3.out.trans hk4, .inl ⟨⟨x, z0, z1, fb, z2, [], [], [], []⟩, p4, rfl, by omega, hr4, ⟨⟨hxs, HZ.out.1, HZ.out.2, hzi4 z2 (by simp), rfl⟩, hbz4⟩, fun y r0 hy hd => ?_⟩⟩
    obtain ⟨⟨g1, g2, g3⟩, g4⟩ := HQQ.out y r0 hy hd
    obtain ⟨g5, g6⟩ := HQ3.out y.rest _ trivial g4
    obtain ⟨g7, g8⟩ := hq4 [y.regs] r0 ⟨rfl, by simpa using hy.2.2.1⟩ (by simpa using g6)
    cases g7
    refine ⟨?_, g8⟩
    rw [hy.2.2.2, g1, g2, g3, g5]
    rfl
  · refine ⟨rfl, HK3.out.trans hk4, .inr ⟨rfl, fun y r0 hy hd => ?_⟩⟩
    obtain ⟨⟨g1, g2, g3⟩, g4⟩ := HQQ.out y r0 hy hd
    obtain ⟨g5, g6⟩ := HQ3.out y.rest _ trivial g4
    exact hx [y.regs] r0 ⟨rfl, by simpa using hy.2.2.1⟩ (by simpa using g6)
end Go.Proofs.YtfkeklndcjkgcaaGreatDoor

/-
  OWN WORK. The program's tape that is read: lists.
-/
namespace Go.Proofs.YtfkeklndcjkgcaaGreatDoor
open Go.RowKit
attribute [local go_sem] run_store_float
set_option linter.unusedVariables false
set_option linter.unusedSimpArgs false

theorem step_append_run {P : Program} {ops : Array Oper} {o : Oper} {a : Act} {w : World} {K : Act → World → Prop} {Q : Exit → Act → World → Prop} {E : Prop}
    (hg : o.guard = none) (s x : Operand) (t : TypeId) (hop : o.op = Op.call { callee := Callee.builtin Builtin.append, args := #[s, x], argTypes := #[t, t] })
    (sv xv v' : Value) (w' : World) (hs : a.eval s = sv) (hx : a.eval x = xv) (hrun : (Builtin.append_ #[t, t] o.type #[sv, xv]).run P w = .ok v' w') (hK : K (a.put o.dst v') w') :
    if Region.wanted o (yielded ops a.tmps) = true then Oper.wp P o a w K Q else E := by
  have hw : Region.wanted o (yielded ops a.tmps) = true := by simp [Region.wanted, hg]
  rw [if_pos hw]
  unfold Oper.wp
  simp [execOp, hop, resolve, invoke, builtin, hs, hx, hrun, Result.andThen]
  exact hK
theorem list_cnt {α : Type} {e : α → List UInt8} (hge : ∀ x, 1 ≤ (e x).length) {bs r0 : List UInt8} {p : Nat} {ys : List α} (hd : bs.drop p = listL e ys ++ r0) : ys.length ≤ (ys.flatMap e ++ r0).length ∧ bs.drop p = numL (ys.length : Int) ++ (ys.flatMap e ++ r0) := by
  have := flat_ge e hge ys
  refine ⟨by rw [List.length_append]; omega, ?_⟩
  rw [hd]; unfold listL; rw [List.append_assoc]

abbrev UpsG (c : Cx) (p b : Nat) (arr : Value → Array Value) (TB : TypeId) (w : World) : Ending → World → Prop := GotZ c p b List.length (fun W (xs : List UD) => (∀ x ∈ xs, I64 x.i) ∧ xs.length ≤ 1000000 ∧ ∃ sv, W.heap[b]? = some (.cells (arr sv) TB) ∧ ORow W w.heap.size 110 2 UD.cells sv xs) (fun ys => ∀ y ∈ ys, I64 y.i) (listL upL) w
set_option maxRecDepth 20000 in
set_option maxHeartbeats 16000000 in
theorem rth_up (c : Cx) (p b o : Nat) (arr : Value → Array Value) (TB : TypeId) (w : World) (h : Rt c w p) (hb : w.heap[b]? = some (.cells (arr nl) TB)) (hget : ∀ s, (arr s)[o]? = some s) (hset : ∀ s s', (arr s).setIfInBounds o s' = arr s') (hTB : TB ≠ 110) (hlb : c.B ≤ b) :
    Calls Tryz.prog 112 #[.pointer (some ⟨c.t, 0, none⟩), .pointer (some ⟨b, o, none⟩), MV 113 c.t] w (UpsG c p b arr TB w) := by
  have H : Hid (Rt c w p) := h
  have HB : Hid (w.heap[b]? = some (.cells (arr nl) TB)) := hb
  have HGE : Hid (∀ s, (arr s)[o]? = some s) := hget
  have HSE : Hid (∀ s s', (arr s).setIfInBounds o s' = arr s') := hset
  have hbt : b ≠ c.t := by have := h.lt; omega
  have hn2 := h.hn2
  have hlt := h.lt
  have hBw := h.hB
  have e0 : w.cell? ⟨b, o, none⟩ = some nl := (blk_cell hb o).trans (hget nl)
  clear h hb hget hset
  go_enter Tryz.func112, Tryz.ntmps112
  go_wp2_with fail
  refine (rcn_any c p 0 w H.out).mono ?_
  rintro e w1 ⟨hk, ⟨kk, p1, rfl, hpp, hpk, hr, hq⟩ | ⟨rfl, hx⟩⟩
  rotate_left
  · refine ⟨rfl, hk.to, .inr ⟨rfl, fun ys r0 hy hd => ?_⟩⟩
    obtain ⟨g1, g2⟩ := list_cnt upL_ge hd
    exact hx ys.length _ g1 g2
  have t1 := hr.c1
  have HK1 : Hid (Bs c.t b w w1) := hk.to
  have HR1 : Hid (Rt c w1 p1) := hr
  have HB1 : Hid (w1.heap[b]? = some (.cells (arr nl) TB)) := Bs.blkn (b := b) hk HB.out hbt
  have HQ1 : Hid (∀ (ys : List UD) r0, (∀ y ∈ ys, I64 y.i) → c.bs.drop p = listL upL ys ++ r0 → kk = ys.length ∧ c.bs.drop p1 = ys.flatMap upL ++ r0) := fun ys r0 hy hd => by
    obtain ⟨g1, g2⟩ := list_cnt upL_ge hd
    exact hq ys.length _ g1 g2
  clear hk hr hq H HB e0
  go_wp2_with fail
  clear t1
  go_loopw [36] (fun i wr => ∃ (m p2 : Nat) (xs : List UD) (sv : Value), m ≤ kk ∧ i = .int .i64 m ∧ p + m < p2 ∧ Hid (xs.length = m) ∧ Hid (∀ x ∈ xs, I64 x.i) ∧ Hid (Rt c wr p2) ∧ Hid (Bs c.t b w wr) ∧ Hid (wr.heap[b]? = some (.cells (arr sv) TB)) ∧ Hid (ORow wr w.heap.size 110 2 UD.cells sv xs) ∧ Hid (∀ (ys : List UD) r0, (∀ y ∈ ys, I64 y.i) → c.bs.drop p = listL upL ys ++ r0 → kk = ys.length ∧ xs = ys.take m ∧ c.bs.drop p2 = (ys.drop m).flatMap upL ++ r0)) (fun i _ => kk - (intOf i).toNat)
  case atStart => exact ⟨0, p1, [], nl, Nat.zero_le _, rfl, by omega, rfl, (fun x hx => by cases hx), HR1, HK1, HB1, ORow.nil _ _ _ _ _, fun ys r0 hy hd => ⟨(HQ1.out ys r0 hy hd).1, rfl, (HQ1.out ys r0 hy hd).2⟩⟩
  case round =>
    clear HR1 HK1 HB1 HQ1
    obtain ⟨m, p2, xs, sv, hm, rfl, hpm, HL, HXI, HR, HK, HB, HO, HQ⟩ := hrel
    by_cases k1 : m < kk
    · have hy := bw1 wr (.cells #[.bool false, .int .i64 0] 110)
      have hws : w.heap.size ≤ wr.heap.size := HK.out.size
      have hblt := blk_lt HB.out
      have HP : Hid _ := rup_any c p2 wr.heap.size (wr.alloc (.cells #[.bool false, .int .i64 0] 110)) (HR.out.later hy) (blk_new _ _) HR.out.hB
      have HKY : Hid (Bs c.t b w (wr.alloc (.cells #[.bool false, .int .i64 0] 110))) := HK.out.trans (Bs.of_below hy)
      have HBY : Hid ((wr.alloc (.cells #[.bool false, .int .i64 0] 110)).heap[b]? = some (.cells (arr sv) TB)) := blk_old HB.out _
      have HOY : Hid (ORow (wr.alloc (.cells #[.bool false, .int .i64 0] 110)) w.heap.size 110 2 UD.cells sv xs) := HO.out.later hy
      have HOR : Hid (ORow wr w.heap.size 110 2 UD.cells sv xs) := HO.out
      obtain ⟨E, hE⟩ : ∃ E, E = wr.heap.size := ⟨_, rfl⟩
      have HE : Hid (E = wr.heap.size) := hE
      rw [← hE] at HP
      clear hy HR HK HB HO
      go_wp2_with fail
      rw [← hE]
      clear hE
      refine Calls.mono HP.out ?_
      rintro e w2 ⟨hk2, ⟨x, p3, rfl, hpp3, hr3, ⟨hxb, hbx⟩, hq3⟩ | ⟨rfl, hx⟩⟩
      · have HK2 : Hid (Bs c.t b w w2) := HKY.out.into hk2 (by have := HE.out; omega)
        have hb2 : w2.heap[b]? = some (.cells (arr sv) TB) := hk2.blk HBY.out hbt (by have := HE.out; omega)
        have HB2 : Hid (w2.heap[b]? = some (.cells (arr sv) TB)) := hb2
        have HO2 : Hid (ORow w2 w.heap.size 110 2 UD.cells sv xs) := HOR.out.keep fun j ar hj he => by
          have hjl := blk_lt he
          have h1 := hk2.block j (by simp; omega) (by omega) (by have := HE.out; omega)
          rw [h1]
          exact (blk_old he _).trans he.symm
        have hnw := bw1 w2 (.cells (UD.cells x).toArray 110)
        have hnd : Below w2.heap.size w2 (w2.alloc (.cells (UD.cells x).toArray 110)).drew := hnw.drew
        obtain ⟨g', cap', w3, HA, hO3, hgr⟩ := (HO2.out.later hnd).app 45 16 (by kernel_rfl) (by kernel_rfl) (by decide) (by decide) x w2.heap.size 45 (blk_new _ _) rfl (by cases x; simp [UD.cells, Value.oneCell']) (by have := HL.out; omega) (by have := HK2.out.size; have := hnd.size; omega)
        have hb3 : w3.heap[b]? = some (.cells (arr sv) TB) := (HO2.out.later hnd).other hgr (blk_later hnd hb2) hTB
        have HB3 : Hid (w3.heap[b]? = some (.cells (arr sv) TB)) := hb3
        have HR3 : Hid (Rt c w3 p3) := (HO2.out.later hnd).rt hgr (hr3.later hnd) (by omega)
        have HK3 : Hid (Bs c.t b w w3) := (HO2.out.later hnd).grow (HK2.out.trans (Bs.of_below hnd)) (Nat.le_refl _) hgr
        have HO3 : Hid (ORow w3 w.heap.size 110 2 UD.cells (.slice (some ⟨g', 0, none⟩) (xs.length + 1) cap') (xs ++ [x])) := hO3
        have HAH : Hid _ := HA
        have c0 : w2.cell? ⟨b, o, none⟩ = some sv := (blk_cell hb2 o).trans (HGE.out sv)
        have q0 : w2.cell? ⟨E, 0, none⟩ = some (.bool x.l) := (blk_cell hbx 0).trans rfl
        have q1 : w2.cell? ⟨E, 1, none⟩ = some (.int .i64 x.i) := (blk_cell hbx 1).trans rfl
        have c0a : (w2.alloc (.cells #[.bool x.l, .int .i64 x.i] 110)).cell? ⟨b, o, none⟩ = some sv := cell_later (bw1 _ _) c0
        have z3 := blk_frozen hb3 o
        have y3 : w3.cell? ⟨b, o, none⟩ = some sv := (blk_cell hb3 o).trans (HGE.out sv)
        have HXB : Hid (∀ y ∈ xs ++ [x], I64 y.i) := fun y hy => by
          rcases List.mem_append.1 hy with h | h
          · exact HXI.out y h
          · rw [List.mem_singleton.1 h]; exact hxb
        have HQ3 : Hid (∀ y r0, I64 y.i → c.bs.drop p2 = upL y ++ r0 → x = y ∧ c.bs.drop p3 = r0) := hq3
        have hxl : xs.length = m := HL.out
        obtain ⟨a0, q0, hsv⟩ := HO2.out.val
        rw [hxl] at hsv
        subst hsv
        clear HA hO3 hgr hb2 hb3 hnw hnd hk2 hbx hq3 hr3 HKY HBY HOY HOR HP hxl
        go_wp2_with fail
        go_region_law (refine step_append_run rfl _ _ _ rfl _ _ _ _ rfl rfl HAH.out ?_)
        all_goals
          go_wp2_with fail
          go_roundw
          case rel =>
            refine ⟨m + 1, p3, xs ++ [x], .slice (some ⟨g', 0, none⟩) (xs.length + 1) cap', by omega, by go_num, by omega, ?_, HXB, HR3.out.put hlb _ _, HK3.out.set_b _ _, ?_, HO3.out.put HB3.out hTB _ _, ?_⟩
            · show (xs ++ [x]).length = m + 1
              rw [List.length_append, HL.out]; rfl
            · show _ = _
              rw [blk_set HB3.out, HSE.out]
            · intro ys r0 hy hd
              obtain ⟨g1, g2, g3⟩ := HQ.out ys r0 hy hd
              obtain ⟨y, hyy⟩ : ∃ y, ys[m]? = some y := ⟨ys[m]'(by omega), by simp⟩
              rw [flatMap_drop _ hyy, List.append_assoc] at g3
              obtain ⟨g4, g5⟩ := HQ3.out y _ (hy y (List.mem_of_getElem? hyy)) g3
              exact ⟨g1, by rw [List.take_add_one, hyy, g2, g4]; rfl, g5⟩
          case measure => simp [intOf]; omega
      · refine ⟨rfl, HKY.out.into hk2 (by have := HE.out; omega), .inr ⟨rfl, fun ys r0 hy hd => ?_⟩⟩
        obtain ⟨g1, g2, g3⟩ := HQ.out ys r0 hy hd
        obtain ⟨y, hyy⟩ : ∃ y, ys[m]? = some y := ⟨ys[m]'(by omega), by simp⟩
        rw [flatMap_drop _ hyy, List.append_assoc] at g3
        exact hx y _ (hy y (List.mem_of_getElem? hyy)) g3
    · have hmn : m = kk := by omega
      go_wp2_with fail
      go_end0
      refine ⟨HK.out, .inl ⟨xs, p2, rfl, by rw [HL.out]; exact hpm, HR.out, ⟨HXI.out, by rw [HL.out]; omega, sv, HB.out, HO.out⟩, fun ys r0 hy hd => ?_⟩⟩
      obtain ⟨g1, g2, g3⟩ := HQ.out ys r0 hy hd
      rw [fdrop_end (by omega), List.nil_append] at g3
      exact ⟨by rw [g2, List.take_of_length_le (by omega)], g3⟩

abbrev CosG (c : Cx) (p b : Nat) (arr : Value → Array Value) (TB : TypeId) (w : World) : Ending → World → Prop := GotZ c p b List.length (fun W (xs : List VD) => (∀ x ∈ xs, I64 x.n ∧ x.f < 18446744073709551616 ∧ x.s.size ≤ c.n) ∧ xs.length ≤ 1000000 ∧ ∃ sv, W.heap[b]? = some (.cells (arr sv) TB) ∧ ORow W w.heap.size 113 5 VD.cells sv xs) (fun ys => ∀ y ∈ ys, COk y) (listL constL) w
set_option maxRecDepth 20000 in
set_option maxHeartbeats 16000000 in
theorem rth_const (c : Cx) (p b o : Nat) (arr : Value → Array Value) (TB : TypeId) (w : World) (h : Rt c w p) (hb : w.heap[b]? = some (.cells (arr nl) TB)) (hget : ∀ s, (arr s)[o]? = some s) (hset : ∀ s s', (arr s).setIfInBounds o s' = arr s') (hTB : TB ≠ 113) (hlb : c.B ≤ b) :
    Calls Tryz.prog 114 #[.pointer (some ⟨c.t, 0, none⟩), .pointer (some ⟨b, o, none⟩), MV 115 c.t] w (CosG c p b arr TB w) := by
  have H : Hid (Rt c w p) := h
  have HB : Hid (w.heap[b]? = some (.cells (arr nl) TB)) := hb
  have HGE : Hid (∀ s, (arr s)[o]? = some s) := hget
  have HSE : Hid (∀ s s', (arr s).setIfInBounds o s' = arr s') := hset
  have hbt : b ≠ c.t := by have := h.lt; omega
  have hn2 := h.hn2
  have hlt := h.lt
  have hBw := h.hB
  have e0 : w.cell? ⟨b, o, none⟩ = some nl := (blk_cell hb o).trans (hget nl)
  clear h hb hget hset
  go_enter Tryz.func114, Tryz.ntmps114
  go_wp2_with fail
  refine (rcn_any c p 0 w H.out).mono ?_
  rintro e w1 ⟨hk, ⟨kk, p1, rfl, hpp, hpk, hr, hq⟩ | ⟨rfl, hx⟩⟩
  rotate_left
  · refine ⟨rfl, hk.to, .inr ⟨rfl, fun ys r0 hy hd => ?_⟩⟩
    obtain ⟨g1, g2⟩ := list_cnt constL_ge hd
    exact hx ys.length _ g1 g2
  have t1 := hr.c1
  have HK1 : Hid (Bs c.t b w w1) := hk.to
  have HR1 : Hid (Rt c w1 p1) := hr
  have HB1 : Hid (w1.heap[b]? = some (.cells (arr nl) TB)) := Bs.blkn (b := b) hk HB.out hbt
  have HQ1 : Hid (∀ (ys : List VD) r0, (∀ y ∈ ys, COk y) → c.bs.drop p = listL constL ys ++ r0 → kk = ys.length ∧ c.bs.drop p1 = ys.flatMap constL ++ r0) := fun ys r0 hy hd => by
    obtain ⟨g1, g2⟩ := list_cnt constL_ge hd
    exact hq ys.length _ g1 g2
  clear hk hr hq H HB e0
  go_wp2_with fail
  clear t1
  go_loopw [36] (fun i wr => ∃ (m p2 : Nat) (xs : List VD) (sv : Value), m ≤ kk ∧ i = .int .i64 m ∧ p + m < p2 ∧ Hid (xs.length = m) ∧ Hid (∀ x ∈ xs, I64 x.n ∧ x.f < 18446744073709551616 ∧ x.s.size ≤ c.n) ∧ Hid (Rt c wr p2) ∧ Hid (Bs c.t b w wr) ∧ Hid (wr.heap[b]? = some (.cells (arr sv) TB)) ∧ Hid (ORow wr w.heap.size 113 5 VD.cells sv xs) ∧ Hid (∀ (ys : List VD) r0, (∀ y ∈ ys, COk y) → c.bs.drop p = listL constL ys ++ r0 → kk = ys.length ∧ xs = ys.take m ∧ c.bs.drop p2 = (ys.drop m).flatMap constL ++ r0)) (fun i _ => kk - (intOf i).toNat)
  case atStart => exact ⟨0, p1, [], nl, Nat.zero_le _, rfl, by omega, rfl, (fun x hx => by cases hx), HR1, HK1, HB1, ORow.nil _ _ _ _ _, fun ys r0 hy hd => ⟨(HQ1.out ys r0 hy hd).1, rfl, (HQ1.out ys r0 hy hd).2⟩⟩
  case round =>
    clear HR1 HK1 HB1 HQ1
    obtain ⟨m, p2, xs, sv, hm, rfl, hpm, HL, HXI, HR, HK, HB, HO, HQ⟩ := hrel
    by_cases k1 : m < kk
    · have hy := bw1 wr (.cells (vz 0) 113)
      have hws : w.heap.size ≤ wr.heap.size := HK.out.size
      have hblt := blk_lt HB.out
      have HP : Hid _ := rva_any c p2 wr.heap.size (wr.alloc (.cells (vz 0) 113)) (HR.out.later hy) (blk_new _ _) HR.out.hB
      have HKY : Hid (Bs c.t b w (wr.alloc (.cells (vz 0) 113))) := HK.out.trans (Bs.of_below hy)
      have HBY : Hid ((wr.alloc (.cells (vz 0) 113)).heap[b]? = some (.cells (arr sv) TB)) := blk_old HB.out _
      have HOY : Hid (ORow (wr.alloc (.cells (vz 0) 113)) w.heap.size 113 5 VD.cells sv xs) := HO.out.later hy
      have HOR : Hid (ORow wr w.heap.size 113 5 VD.cells sv xs) := HO.out
      obtain ⟨E, hE⟩ : ∃ E, E = wr.heap.size := ⟨_, rfl⟩
      have HE : Hid (E = wr.heap.size) := hE
      rw [← hE] at HP
      clear hy HR HK HB HO
      go_wp2_with fail
      rw [← hE]
      clear hE
      refine Calls.mono HP.out ?_
      rintro e w2 ⟨hk2, ⟨x, p3, rfl, hpp3, hr3, ⟨hxb, hbx⟩, hq3⟩ | ⟨rfl, hx⟩⟩
      · have HK2 : Hid (Bs c.t b w w2) := HKY.out.into hk2 (by have := HE.out; omega)
        have hb2 : w2.heap[b]? = some (.cells (arr sv) TB) := hk2.blk HBY.out hbt (by have := HE.out; omega)
        have HB2 : Hid (w2.heap[b]? = some (.cells (arr sv) TB)) := hb2
        have HO2 : Hid (ORow w2 w.heap.size 113 5 VD.cells sv xs) := HOR.out.keep fun j ar hj he => by
          have hjl := blk_lt he
          have h1 := hk2.block j (by simp; omega) (by omega) (by have := HE.out; omega)
          rw [h1]
          exact (blk_old he _).trans he.symm
        have hnw := bw1 w2 (.cells (VD.cells x).toArray 113)
        have hnd : Below w2.heap.size w2 (w2.alloc (.cells (VD.cells x).toArray 113)).drew := hnw.drew
        obtain ⟨g', cap', w3, HA, hO3, hgr⟩ := (HO2.out.later hnd).app 46 48 (by kernel_rfl) (by kernel_rfl) (by decide) (by decide) x w2.heap.size 46 (blk_new _ _) rfl (by cases x; simp [VD.cells, Value.oneCell']) (by have := HL.out; omega) (by have := HK2.out.size; have := hnd.size; omega)
        have hb3 : w3.heap[b]? = some (.cells (arr sv) TB) := (HO2.out.later hnd).other hgr (blk_later hnd hb2) hTB
        have HB3 : Hid (w3.heap[b]? = some (.cells (arr sv) TB)) := hb3
        have HR3 : Hid (Rt c w3 p3) := (HO2.out.later hnd).rt hgr (hr3.later hnd) (by omega)
        have HK3 : Hid (Bs c.t b w w3) := (HO2.out.later hnd).grow (HK2.out.trans (Bs.of_below hnd)) (Nat.le_refl _) hgr
        have HO3 : Hid (ORow w3 w.heap.size 113 5 VD.cells (.slice (some ⟨g', 0, none⟩) (xs.length + 1) cap') (xs ++ [x])) := hO3
        have HAH : Hid _ := HA
        have c0 : w2.cell? ⟨b, o, none⟩ = some sv := (blk_cell hb2 o).trans (HGE.out sv)
        have q0 : w2.cell? ⟨E, 0, none⟩ = some (.int .i64 x.k) := (blk_cell hbx 0).trans rfl
        have q1 : w2.cell? ⟨E, 1, none⟩ = some (.int .i64 x.n) := (blk_cell hbx 1).trans rfl
        have q2 : w2.cell? ⟨E, 2, none⟩ = some (.float .f64 x.f) := (blk_cell hbx 2).trans rfl
        have q3 : w2.cell? ⟨E, 3, none⟩ = some (.string x.s) := (blk_cell hbx 3).trans rfl
        have q4 : w2.cell? ⟨E, 4, none⟩ = some (.int .i64 x.r) := (blk_cell hbx 4).trans rfl
        have c0a : (w2.alloc (.cells #[.int .i64 x.k, .int .i64 x.n, .float .f64 x.f, .string x.s, .int .i64 x.r] 113)).cell? ⟨b, o, none⟩ = some sv := cell_later (bw1 _ _) c0
        have z3 := blk_frozen hb3 o
        have y3 : w3.cell? ⟨b, o, none⟩ = some sv := (blk_cell hb3 o).trans (HGE.out sv)
        have HXB : Hid (∀ y ∈ xs ++ [x], I64 y.n ∧ y.f < 18446744073709551616 ∧ y.s.size ≤ c.n) := fun y hy => by
          rcases List.mem_append.1 hy with h | h
          · exact HXI.out y h
          · rw [List.mem_singleton.1 h]; exact hxb
        have HQ3 : Hid (∀ y r0, COk y → c.bs.drop p2 = constL y ++ r0 → x = y ∧ c.bs.drop p3 = r0) := hq3
        have hxl : xs.length = m := HL.out
        obtain ⟨a0, q0, hsv⟩ := HO2.out.val
        rw [hxl] at hsv
        subst hsv
        clear HA hO3 hgr hb2 hb3 hnw hnd hk2 hbx hq3 hr3 HKY HBY HOY HOR HP hxl
        go_wp2_with fail
        go_region_law (refine step_append_run rfl _ _ _ rfl _ _ _ _ rfl rfl HAH.out ?_)
        all_goals
          go_wp2_with fail
          go_roundw
          case rel =>
            refine ⟨m + 1, p3, xs ++ [x], .slice (some ⟨g', 0, none⟩) (xs.length + 1) cap', by omega, by go_num, by omega, ?_, HXB, HR3.out.put hlb _ _, HK3.out.set_b _ _, ?_, HO3.out.put HB3.out hTB _ _, ?_⟩
            · show (xs ++ [x]).length = m + 1
              rw [List.length_append, HL.out]; rfl
            · show _ = _
              rw [blk_set HB3.out, HSE.out]
            · intro ys r0 hy hd
              obtain ⟨g1, g2, g3⟩ := HQ.out ys r0 hy hd
              obtain ⟨y, hyy⟩ : ∃ y, ys[m]? = some y := ⟨ys[m]'(by omega), by simp⟩
              rw [flatMap_drop _ hyy, List.append_assoc] at g3
              obtain ⟨g4, g5⟩ := HQ3.out y _ (hy y (List.mem_of_getElem? hyy)) g3
              exact ⟨g1, by rw [List.take_add_one, hyy, g2, g4]; rfl, g5⟩
          case measure => simp [intOf]; omega
      · refine ⟨rfl, HKY.out.into hk2 (by have := HE.out; omega), .inr ⟨rfl, fun ys r0 hy hd => ?_⟩⟩
        obtain ⟨g1, g2, g3⟩ := HQ.out ys r0 hy hd
        obtain ⟨y, hyy⟩ : ∃ y, ys[m]? = some y := ⟨ys[m]'(by omega), by simp⟩
        rw [flatMap_drop _ hyy, List.append_assoc] at g3
        exact hx y _ (hy y (List.mem_of_getElem? hyy)) g3
    · have hmn : m = kk := by omega
      go_wp2_with fail
      go_end0
      refine ⟨HK.out, .inl ⟨xs, p2, rfl, by rw [HL.out]; exact hpm, HR.out, ⟨HXI.out, by rw [HL.out]; omega, sv, HB.out, HO.out⟩, fun ys r0 hy hd => ?_⟩⟩
      obtain ⟨g1, g2, g3⟩ := HQ.out ys r0 hy hd
      rw [fdrop_end (by omega), List.nil_append] at g3
      exact ⟨by rw [g2, List.take_of_length_le (by omega)], g3⟩

abbrev InsG (c : Cx) (p b : Nat) (arr : Value → Array Value) (TB : TypeId) (w : World) : Ending → World → Prop := GotZ c p b List.length (fun W (xs : List ID) => (∀ x ∈ xs, I64 x.op ∧ I64 x.a ∧ I64 x.b ∧ I64 x.c ∧ I64 x.d) ∧ xs.length ≤ 1000000 ∧ ∃ sv, W.heap[b]? = some (.cells (arr sv) TB) ∧ ORow W w.heap.size 52 5 ID.cells sv xs) (fun ys => ∀ y ∈ ys, (I64 y.op ∧ I64 y.a ∧ I64 y.b ∧ I64 y.c ∧ I64 y.d)) (listL stepL) w
set_option maxRecDepth 20000 in
set_option maxHeartbeats 16000000 in
theorem rth_ins (c : Cx) (p b o : Nat) (arr : Value → Array Value) (TB : TypeId) (w : World) (h : Rt c w p) (hb : w.heap[b]? = some (.cells (arr nl) TB)) (hget : ∀ s, (arr s)[o]? = some s) (hset : ∀ s s', (arr s).setIfInBounds o s' = arr s') (hTB : TB ≠ 52) (hlb : c.B ≤ b) :
    Calls Tryz.prog 116 #[.pointer (some ⟨c.t, 0, none⟩), .pointer (some ⟨b, o, none⟩), MV 117 c.t] w (InsG c p b arr TB w) := by
  have H : Hid (Rt c w p) := h
  have HB : Hid (w.heap[b]? = some (.cells (arr nl) TB)) := hb
  have HGE : Hid (∀ s, (arr s)[o]? = some s) := hget
  have HSE : Hid (∀ s s', (arr s).setIfInBounds o s' = arr s') := hset
  have hbt : b ≠ c.t := by have := h.lt; omega
  have hn2 := h.hn2
  have hlt := h.lt
  have hBw := h.hB
  have e0 : w.cell? ⟨b, o, none⟩ = some nl := (blk_cell hb o).trans (hget nl)
  clear h hb hget hset
  go_enter Tryz.func116, Tryz.ntmps116
  go_wp2_with fail
  refine (rcn_any c p 0 w H.out).mono ?_
  rintro e w1 ⟨hk, ⟨kk, p1, rfl, hpp, hpk, hr, hq⟩ | ⟨rfl, hx⟩⟩
  rotate_left
  · refine ⟨rfl, hk.to, .inr ⟨rfl, fun ys r0 hy hd => ?_⟩⟩
    obtain ⟨g1, g2⟩ := list_cnt stepL_ge hd
    exact hx ys.length _ g1 g2
  have t1 := hr.c1
  have HK1 : Hid (Bs c.t b w w1) := hk.to
  have HR1 : Hid (Rt c w1 p1) := hr
  have HB1 : Hid (w1.heap[b]? = some (.cells (arr nl) TB)) := Bs.blkn (b := b) hk HB.out hbt
  have HQ1 : Hid (∀ (ys : List ID) r0, (∀ y ∈ ys, (I64 y.op ∧ I64 y.a ∧ I64 y.b ∧ I64 y.c ∧ I64 y.d)) → c.bs.drop p = listL stepL ys ++ r0 → kk = ys.length ∧ c.bs.drop p1 = ys.flatMap stepL ++ r0) := fun ys r0 hy hd => by
    obtain ⟨g1, g2⟩ := list_cnt stepL_ge hd
    exact hq ys.length _ g1 g2
  clear hk hr hq H HB e0
  go_wp2_with fail
  clear t1
  go_loopw [36] (fun i wr => ∃ (m p2 : Nat) (xs : List ID) (sv : Value), m ≤ kk ∧ i = .int .i64 m ∧ p + m < p2 ∧ Hid (xs.length = m) ∧ Hid (∀ x ∈ xs, I64 x.op ∧ I64 x.a ∧ I64 x.b ∧ I64 x.c ∧ I64 x.d) ∧ Hid (Rt c wr p2) ∧ Hid (Bs c.t b w wr) ∧ Hid (wr.heap[b]? = some (.cells (arr sv) TB)) ∧ Hid (ORow wr w.heap.size 52 5 ID.cells sv xs) ∧ Hid (∀ (ys : List ID) r0, (∀ y ∈ ys, (I64 y.op ∧ I64 y.a ∧ I64 y.b ∧ I64 y.c ∧ I64 y.d)) → c.bs.drop p = listL stepL ys ++ r0 → kk = ys.length ∧ xs = ys.take m ∧ c.bs.drop p2 = (ys.drop m).flatMap stepL ++ r0)) (fun i _ => kk - (intOf i).toNat)
  case atStart => exact ⟨0, p1, [], nl, Nat.zero_le _, rfl, by omega, rfl, (fun x hx => by cases hx), HR1, HK1, HB1, ORow.nil _ _ _ _ _, fun ys r0 hy hd => ⟨(HQ1.out ys r0 hy hd).1, rfl, (HQ1.out ys r0 hy hd).2⟩⟩
  case round =>
    clear HR1 HK1 HB1 HQ1
    obtain ⟨m, p2, xs, sv, hm, rfl, hpm, HL, HXI, HR, HK, HB, HO, HQ⟩ := hrel
    by_cases k1 : m < kk
    · have hy := bw1 wr (.cells #[.int .i64 0, .int .i64 0, .int .i64 0, .int .i64 0, .int .i64 0] 52)
      have hws : w.heap.size ≤ wr.heap.size := HK.out.size
      have hblt := blk_lt HB.out
      have HP : Hid _ := rst_any c p2 wr.heap.size (wr.alloc (.cells #[.int .i64 0, .int .i64 0, .int .i64 0, .int .i64 0, .int .i64 0] 52)) (HR.out.later hy) (blk_new _ _) HR.out.hB
      have HKY : Hid (Bs c.t b w (wr.alloc (.cells #[.int .i64 0, .int .i64 0, .int .i64 0, .int .i64 0, .int .i64 0] 52))) := HK.out.trans (Bs.of_below hy)
      have HBY : Hid ((wr.alloc (.cells #[.int .i64 0, .int .i64 0, .int .i64 0, .int .i64 0, .int .i64 0] 52)).heap[b]? = some (.cells (arr sv) TB)) := blk_old HB.out _
      have HOY : Hid (ORow (wr.alloc (.cells #[.int .i64 0, .int .i64 0, .int .i64 0, .int .i64 0, .int .i64 0] 52)) w.heap.size 52 5 ID.cells sv xs) := HO.out.later hy
      have HOR : Hid (ORow wr w.heap.size 52 5 ID.cells sv xs) := HO.out
      obtain ⟨E, hE⟩ : ∃ E, E = wr.heap.size := ⟨_, rfl⟩
      have HE : Hid (E = wr.heap.size) := hE
      rw [← hE] at HP
      clear hy HR HK HB HO
      go_wp2_with fail
      rw [← hE]
      clear hE
      refine Calls.mono HP.out ?_
      rintro e w2 ⟨hk2, ⟨x, p3, rfl, hpp3, hr3, ⟨hxb, hbx⟩, hq3⟩ | ⟨rfl, hx⟩⟩
      · have HK2 : Hid (Bs c.t b w w2) := HKY.out.into hk2 (by have := HE.out; omega)
        have hb2 : w2.heap[b]? = some (.cells (arr sv) TB) := hk2.blk HBY.out hbt (by have := HE.out; omega)
        have HB2 : Hid (w2.heap[b]? = some (.cells (arr sv) TB)) := hb2
        have HO2 : Hid (ORow w2 w.heap.size 52 5 ID.cells sv xs) := HOR.out.keep fun j ar hj he => by
          have hjl := blk_lt he
          have h1 := hk2.block j (by simp; omega) (by omega) (by have := HE.out; omega)
          rw [h1]
          exact (blk_old he _).trans he.symm
        have hnw := bw1 w2 (.cells (ID.cells x).toArray 52)
        have hnd : Below w2.heap.size w2 (w2.alloc (.cells (ID.cells x).toArray 52)).drew := hnw.drew
        obtain ⟨g', cap', w3, HA, hO3, hgr⟩ := (HO2.out.later hnd).app 47 40 (by kernel_rfl) (by kernel_rfl) (by decide) (by decide) x w2.heap.size 47 (blk_new _ _) rfl (by cases x; simp [ID.cells, Value.oneCell']) (by have := HL.out; omega) (by have := HK2.out.size; have := hnd.size; omega)
        have hb3 : w3.heap[b]? = some (.cells (arr sv) TB) := (HO2.out.later hnd).other hgr (blk_later hnd hb2) hTB
        have HB3 : Hid (w3.heap[b]? = some (.cells (arr sv) TB)) := hb3
        have HR3 : Hid (Rt c w3 p3) := (HO2.out.later hnd).rt hgr (hr3.later hnd) (by omega)
        have HK3 : Hid (Bs c.t b w w3) := (HO2.out.later hnd).grow (HK2.out.trans (Bs.of_below hnd)) (Nat.le_refl _) hgr
        have HO3 : Hid (ORow w3 w.heap.size 52 5 ID.cells (.slice (some ⟨g', 0, none⟩) (xs.length + 1) cap') (xs ++ [x])) := hO3
        have HAH : Hid _ := HA
        have c0 : w2.cell? ⟨b, o, none⟩ = some sv := (blk_cell hb2 o).trans (HGE.out sv)
        have q0 : w2.cell? ⟨E, 0, none⟩ = some (.int .i64 x.op) := (blk_cell hbx 0).trans rfl
        have q1 : w2.cell? ⟨E, 1, none⟩ = some (.int .i64 x.a) := (blk_cell hbx 1).trans rfl
        have q2 : w2.cell? ⟨E, 2, none⟩ = some (.int .i64 x.b) := (blk_cell hbx 2).trans rfl
        have q3 : w2.cell? ⟨E, 3, none⟩ = some (.int .i64 x.c) := (blk_cell hbx 3).trans rfl
        have q4 : w2.cell? ⟨E, 4, none⟩ = some (.int .i64 x.d) := (blk_cell hbx 4).trans rfl
        have c0a : (w2.alloc (.cells #[.int .i64 x.op, .int .i64 x.a, .int .i64 x.b, .int .i64 x.c, .int .i64 x.d] 52)).cell? ⟨b, o, none⟩ = some sv := cell_later (bw1 _ _) c0
        have z3 := blk_frozen hb3 o
        have y3 : w3.cell? ⟨b, o, none⟩ = some sv := (blk_cell hb3 o).trans (HGE.out sv)
        have HXB : Hid (∀ y ∈ xs ++ [x], I64 y.op ∧ I64 y.a ∧ I64 y.b ∧ I64 y.c ∧ I64 y.d) := fun y hy => by
          rcases List.mem_append.1 hy with h | h
          · exact HXI.out y h
          · rw [List.mem_singleton.1 h]; exact hxb
        have HQ3 : Hid (∀ y r0, (I64 y.op ∧ I64 y.a ∧ I64 y.b ∧ I64 y.c ∧ I64 y.d) → c.bs.drop p2 = stepL y ++ r0 → x = y ∧ c.bs.drop p3 = r0) := hq3
        have hxl : xs.length = m := HL.out
        obtain ⟨a0, q0, hsv⟩ := HO2.out.val
        rw [hxl] at hsv
        subst hsv
        clear HA hO3 hgr hb2 hb3 hnw hnd hk2 hbx hq3 hr3 HKY HBY HOY HOR HP hxl
        go_wp2_with fail
        go_region_law (refine step_append_run rfl _ _ _ rfl _ _ _ _ rfl rfl HAH.out ?_)
        all_goals
          go_wp2_with fail
          go_roundw
          case rel =>
            refine ⟨m + 1, p3, xs ++ [x], .slice (some ⟨g', 0, none⟩) (xs.length + 1) cap', by omega, by go_num, by omega, ?_, HXB, HR3.out.put hlb _ _, HK3.out.set_b _ _, ?_, HO3.out.put HB3.out hTB _ _, ?_⟩
            · show (xs ++ [x]).length = m + 1
              rw [List.length_append, HL.out]; rfl
            · show _ = _
              rw [blk_set HB3.out, HSE.out]
            · intro ys r0 hy hd
              obtain ⟨g1, g2, g3⟩ := HQ.out ys r0 hy hd
              obtain ⟨y, hyy⟩ : ∃ y, ys[m]? = some y := ⟨ys[m]'(by omega), by simp⟩
              rw [flatMap_drop _ hyy, List.append_assoc] at g3
              obtain ⟨g4, g5⟩ := HQ3.out y _ (hy y (List.mem_of_getElem? hyy)) g3
              exact ⟨g1, by rw [List.take_add_one, hyy, g2, g4]; rfl, g5⟩
          case measure => simp [intOf]; omega
      · refine ⟨rfl, HKY.out.into hk2 (by have := HE.out; omega), .inr ⟨rfl, fun ys r0 hy hd => ?_⟩⟩
        obtain ⟨g1, g2, g3⟩ := HQ.out ys r0 hy hd
        obtain ⟨y, hyy⟩ : ∃ y, ys[m]? = some y := ⟨ys[m]'(by omega), by simp⟩
        rw [flatMap_drop _ hyy, List.append_assoc] at g3
        exact hx y _ (hy y (List.mem_of_getElem? hyy)) g3
    · have hmn : m = kk := by omega
      go_wp2_with fail
      go_end0
      refine ⟨HK.out, .inl ⟨xs, p2, rfl, by rw [HL.out]; exact hpm, HR.out, ⟨HXI.out, by rw [HL.out]; omega, sv, HB.out, HO.out⟩, fun ys r0 hy hd => ?_⟩⟩
      obtain ⟨g1, g2, g3⟩ := HQ.out ys r0 hy hd
      rw [fdrop_end (by omega), List.nil_append] at g3
      exact ⟨by rw [g2, List.take_of_length_le (by omega)], g3⟩

abbrev NasG (c : Cx) (p b : Nat) (arr : Value → Array Value) (TB : TypeId) (w : World) : Ending → World → Prop := GotZ c p b List.length (fun W (xs : List ND) => (∀ x ∈ xs, x.s.size ≤ c.n ∧ I64 x.reg ∧ I64 x.fr ∧ I64 x.to) ∧ xs.length ≤ 1000000 ∧ ∃ sv, W.heap[b]? = some (.cells (arr sv) TB) ∧ ORow W w.heap.size 116 4 ND.cells sv xs) (fun ys => ∀ y ∈ ys, (I64 y.reg ∧ I64 y.fr ∧ I64 y.to)) (listL namedL) w
set_option maxRecDepth 20000 in
set_option maxHeartbeats 16000000 in
theorem rth_named (c : Cx) (p b o : Nat) (arr : Value → Array Value) (TB : TypeId) (w : World) (h : Rt c w p) (hb : w.heap[b]? = some (.cells (arr nl) TB)) (hget : ∀ s, (arr s)[o]? = some s) (hset : ∀ s s', (arr s).setIfInBounds o s' = arr s') (hTB : TB ≠ 116) (hlb : c.B ≤ b) :
    Calls Tryz.prog 118 #[.pointer (some ⟨c.t, 0, none⟩), .pointer (some ⟨b, o, none⟩), MV 119 c.t] w (NasG c p b arr TB w) := by
  have H : Hid (Rt c w p) := h
  have HB : Hid (w.heap[b]? = some (.cells (arr nl) TB)) := hb
  have HGE : Hid (∀ s, (arr s)[o]? = some s) := hget
  have HSE : Hid (∀ s s', (arr s).setIfInBounds o s' = arr s') := hset
  have hbt : b ≠ c.t := by have := h.lt; omega
  have hn2 := h.hn2
  have hlt := h.lt
  have hBw := h.hB
  have e0 : w.cell? ⟨b, o, none⟩ = some nl := (blk_cell hb o).trans (hget nl)
  clear h hb hget hset
  go_enter Tryz.func118, Tryz.ntmps118
  go_wp2_with fail
  refine (rcn_any c p 0 w H.out).mono ?_
  rintro e w1 ⟨hk, ⟨kk, p1, rfl, hpp, hpk, hr, hq⟩ | ⟨rfl, hx⟩⟩
  rotate_left
  · refine ⟨rfl, hk.to, .inr ⟨rfl, fun ys r0 hy hd => ?_⟩⟩
    obtain ⟨g1, g2⟩ := list_cnt namedL_ge hd
    exact hx ys.length _ g1 g2
  have t1 := hr.c1
  have HK1 : Hid (Bs c.t b w w1) := hk.to
  have HR1 : Hid (Rt c w1 p1) := hr
  have HB1 : Hid (w1.heap[b]? = some (.cells (arr nl) TB)) := Bs.blkn (b := b) hk HB.out hbt
  have HQ1 : Hid (∀ (ys : List ND) r0, (∀ y ∈ ys, (I64 y.reg ∧ I64 y.fr ∧ I64 y.to)) → c.bs.drop p = listL namedL ys ++ r0 → kk = ys.length ∧ c.bs.drop p1 = ys.flatMap namedL ++ r0) := fun ys r0 hy hd => by
    obtain ⟨g1, g2⟩ := list_cnt namedL_ge hd
    exact hq ys.length _ g1 g2
  clear hk hr hq H HB e0
  go_wp2_with fail
  clear t1
  go_loopw [36] (fun i wr => ∃ (m p2 : Nat) (xs : List ND) (sv : Value), m ≤ kk ∧ i = .int .i64 m ∧ p + m < p2 ∧ Hid (xs.length = m) ∧ Hid (∀ x ∈ xs, x.s.size ≤ c.n ∧ I64 x.reg ∧ I64 x.fr ∧ I64 x.to) ∧ Hid (Rt c wr p2) ∧ Hid (Bs c.t b w wr) ∧ Hid (wr.heap[b]? = some (.cells (arr sv) TB)) ∧ Hid (ORow wr w.heap.size 116 4 ND.cells sv xs) ∧ Hid (∀ (ys : List ND) r0, (∀ y ∈ ys, (I64 y.reg ∧ I64 y.fr ∧ I64 y.to)) → c.bs.drop p = listL namedL ys ++ r0 → kk = ys.length ∧ xs = ys.take m ∧ c.bs.drop p2 = (ys.drop m).flatMap namedL ++ r0)) (fun i _ => kk - (intOf i).toNat)
  case atStart => exact ⟨0, p1, [], nl, Nat.zero_le _, rfl, by omega, rfl, (fun x hx => by cases hx), HR1, HK1, HB1, ORow.nil _ _ _ _ _, fun ys r0 hy hd => ⟨(HQ1.out ys r0 hy hd).1, rfl, (HQ1.out ys r0 hy hd).2⟩⟩
  case round =>
    clear HR1 HK1 HB1 HQ1
    obtain ⟨m, p2, xs, sv, hm, rfl, hpm, HL, HXI, HR, HK, HB, HO, HQ⟩ := hrel
    by_cases k1 : m < kk
    · have hy := bw1 wr (.cells #[.string ⟨#[]⟩, .int .i64 0, .int .i64 0, .int .i64 0] 116)
      have hws : w.heap.size ≤ wr.heap.size := HK.out.size
      have hblt := blk_lt HB.out
      have HP : Hid _ := rna_any c p2 wr.heap.size (wr.alloc (.cells #[.string ⟨#[]⟩, .int .i64 0, .int .i64 0, .int .i64 0] 116)) (HR.out.later hy) (blk_new _ _) HR.out.hB
      have HKY : Hid (Bs c.t b w (wr.alloc (.cells #[.string ⟨#[]⟩, .int .i64 0, .int .i64 0, .int .i64 0] 116))) := HK.out.trans (Bs.of_below hy)
      have HBY : Hid ((wr.alloc (.cells #[.string ⟨#[]⟩, .int .i64 0, .int .i64 0, .int .i64 0] 116)).heap[b]? = some (.cells (arr sv) TB)) := blk_old HB.out _
      have HOY : Hid (ORow (wr.alloc (.cells #[.string ⟨#[]⟩, .int .i64 0, .int .i64 0, .int .i64 0] 116)) w.heap.size 116 4 ND.cells sv xs) := HO.out.later hy
      have HOR : Hid (ORow wr w.heap.size 116 4 ND.cells sv xs) := HO.out
      obtain ⟨E, hE⟩ : ∃ E, E = wr.heap.size := ⟨_, rfl⟩
      have HE : Hid (E = wr.heap.size) := hE
      rw [← hE] at HP
      clear hy HR HK HB HO
      go_wp2_with fail
      rw [← hE]
      clear hE
      refine Calls.mono HP.out ?_
      rintro e w2 ⟨hk2, ⟨x, p3, rfl, hpp3, hr3, ⟨hxb, hbx⟩, hq3⟩ | ⟨rfl, hx⟩⟩
      · have HK2 : Hid (Bs c.t b w w2) := HKY.out.into hk2 (by have := HE.out; omega)
        have hb2 : w2.heap[b]? = some (.cells (arr sv) TB) := hk2.blk HBY.out hbt (by have := HE.out; omega)
        have HB2 : Hid (w2.heap[b]? = some (.cells (arr sv) TB)) := hb2
        have HO2 : Hid (ORow w2 w.heap.size 116 4 ND.cells sv xs) := HOR.out.keep fun j ar hj he => by
          have hjl := blk_lt he
          have h1 := hk2.block j (by simp; omega) (by omega) (by have := HE.out; omega)
          rw [h1]
          exact (blk_old he _).trans he.symm
        have hnw := bw1 w2 (.cells (ND.cells x).toArray 116)
        have hnd : Below w2.heap.size w2 (w2.alloc (.cells (ND.cells x).toArray 116)).drew := hnw.drew
        obtain ⟨g', cap', w3, HA, hO3, hgr⟩ := (HO2.out.later hnd).app 48 40 (by kernel_rfl) (by kernel_rfl) (by decide) (by decide) x w2.heap.size 48 (blk_new _ _) rfl (by cases x; simp [ND.cells, Value.oneCell']) (by have := HL.out; omega) (by have := HK2.out.size; have := hnd.size; omega)
        have hb3 : w3.heap[b]? = some (.cells (arr sv) TB) := (HO2.out.later hnd).other hgr (blk_later hnd hb2) hTB
        have HB3 : Hid (w3.heap[b]? = some (.cells (arr sv) TB)) := hb3
        have HR3 : Hid (Rt c w3 p3) := (HO2.out.later hnd).rt hgr (hr3.later hnd) (by omega)
        have HK3 : Hid (Bs c.t b w w3) := (HO2.out.later hnd).grow (HK2.out.trans (Bs.of_below hnd)) (Nat.le_refl _) hgr
        have HO3 : Hid (ORow w3 w.heap.size 116 4 ND.cells (.slice (some ⟨g', 0, none⟩) (xs.length + 1) cap') (xs ++ [x])) := hO3
        have HAH : Hid _ := HA
        have c0 : w2.cell? ⟨b, o, none⟩ = some sv := (blk_cell hb2 o).trans (HGE.out sv)
        have q0 : w2.cell? ⟨E, 0, none⟩ = some (.string x.s) := (blk_cell hbx 0).trans rfl
        have q1 : w2.cell? ⟨E, 1, none⟩ = some (.int .i64 x.reg) := (blk_cell hbx 1).trans rfl
        have q2 : w2.cell? ⟨E, 2, none⟩ = some (.int .i64 x.fr) := (blk_cell hbx 2).trans rfl
        have q3 : w2.cell? ⟨E, 3, none⟩ = some (.int .i64 x.to) := (blk_cell hbx 3).trans rfl
        have c0a : (w2.alloc (.cells #[.string x.s, .int .i64 x.reg, .int .i64 x.fr, .int .i64 x.to] 116)).cell? ⟨b, o, none⟩ = some sv := cell_later (bw1 _ _) c0
        have z3 := blk_frozen hb3 o
        have y3 : w3.cell? ⟨b, o, none⟩ = some sv := (blk_cell hb3 o).trans (HGE.out sv)
        have HXB : Hid (∀ y ∈ xs ++ [x], y.s.size ≤ c.n ∧ I64 y.reg ∧ I64 y.fr ∧ I64 y.to) := fun y hy => by
          rcases List.mem_append.1 hy with h | h
          · exact HXI.out y h
          · rw [List.mem_singleton.1 h]; exact hxb
        have HQ3 : Hid (∀ y r0, (I64 y.reg ∧ I64 y.fr ∧ I64 y.to) → c.bs.drop p2 = namedL y ++ r0 → x = y ∧ c.bs.drop p3 = r0) := hq3
        have hxl : xs.length = m := HL.out
        obtain ⟨a0, q0, hsv⟩ := HO2.out.val
        rw [hxl] at hsv
        subst hsv
        clear HA hO3 hgr hb2 hb3 hnw hnd hk2 hbx hq3 hr3 HKY HBY HOY HOR HP hxl
        go_wp2_with fail
        go_region_law (refine step_append_run rfl _ _ _ rfl _ _ _ _ rfl rfl HAH.out ?_)
        all_goals
          go_wp2_with fail
          go_roundw
          case rel =>
            refine ⟨m + 1, p3, xs ++ [x], .slice (some ⟨g', 0, none⟩) (xs.length + 1) cap', by omega, by go_num, by omega, ?_, HXB, HR3.out.put hlb _ _, HK3.out.set_b _ _, ?_, HO3.out.put HB3.out hTB _ _, ?_⟩
            · show (xs ++ [x]).length = m + 1
              rw [List.length_append, HL.out]; rfl
            · show _ = _
              rw [blk_set HB3.out, HSE.out]
            · intro ys r0 hy hd
              obtain ⟨g1, g2, g3⟩ := HQ.out ys r0 hy hd
              obtain ⟨y, hyy⟩ : ∃ y, ys[m]? = some y := ⟨ys[m]'(by omega), by simp⟩
              rw [flatMap_drop _ hyy, List.append_assoc] at g3
              obtain ⟨g4, g5⟩ := HQ3.out y _ (hy y (List.mem_of_getElem? hyy)) g3
              exact ⟨g1, by rw [List.take_add_one, hyy, g2, g4]; rfl, g5⟩
          case measure => simp [intOf]; omega
      · refine ⟨rfl, HKY.out.into hk2 (by have := HE.out; omega), .inr ⟨rfl, fun ys r0 hy hd => ?_⟩⟩
        obtain ⟨g1, g2, g3⟩ := HQ.out ys r0 hy hd
        obtain ⟨y, hyy⟩ : ∃ y, ys[m]? = some y := ⟨ys[m]'(by omega), by simp⟩
        rw [flatMap_drop _ hyy, List.append_assoc] at g3
        exact hx y _ (hy y (List.mem_of_getElem? hyy)) g3
    · have hmn : m = kk := by omega
      go_wp2_with fail
      go_end0
      refine ⟨HK.out, .inl ⟨xs, p2, rfl, by rw [HL.out]; exact hpm, HR.out, ⟨HXI.out, by rw [HL.out]; omega, sv, HB.out, HO.out⟩, fun ys r0 hy hd => ?_⟩⟩
      obtain ⟨g1, g2, g3⟩ := HQ.out ys r0 hy hd
      rw [fdrop_end (by omega), List.nil_append] at g3
      exact ⟨by rw [g2, List.take_of_length_le (by omega)], g3⟩
end Go.Proofs.YtfkeklndcjkgcaaGreatDoor

/-
  OWN WORK. The program's tape that is read: protos.
-/
namespace Go.Proofs.YtfkeklndcjkgcaaGreatDoor
open Go.RowKit
attribute [local go_sem] run_store_float
set_option linter.unusedVariables false
set_option linter.unusedSimpArgs false

def partF (x : FD) : Nat → FD
  | 0 => fdZ
  | 1 => hd5 x
  | 2 => hd6 x
  | 3 => hd7 x
  | 4 => hd8 x
  | _ => hd9 x
abbrev pa9 (d : FD) (su sc si sn : Value) : Array Value := #[.string d.name, .int .i64 d.line, .int .i64 d.params, .bool d.rest, .int .i64 d.regs, su, sc, si, sn]
/-- A proto under way: so many parts are read. -/
structure PRd (c : Cx) (w : World) (b p m : Nat) (d : FD) (su sc si sn : Value) (p1 : Nat) (wr : World) : Prop where
  rt : Rt c wr p1
  bs : Bs c.t b w wr
  hb : wr.heap[b]? = some (.cells (pa9 d su sc si sn) 50)
  ru : ORow wr w.heap.size 110 2 UD.cells su d.ups
  rc : ORow wr w.heap.size 113 5 VD.cells sc d.consts
  ri : ORow wr w.heap.size 52 5 ID.cells si d.ins
  rn : ORow wr w.heap.size 116 4 ND.cells sn d.named
  di : DI c.n d
  adv : p + d.ins.length + m ≤ p1
  z0 : m = 0 → d = fdZ
  zu : m ≤ 1 → su = nl ∧ d.ups = []
  zc : m ≤ 2 → sc = nl ∧ d.consts = []
  zi : m ≤ 3 → si = nl ∧ d.ins = []
  zn : m ≤ 4 → sn = nl ∧ d.named = []
  lt : c.t < w.heap.size
  cm : ∀ x r0, FOk x → c.bs.drop p = protoL x ++ r0 → d = partF x m ∧ c.bs.drop p1 = prest x m ++ r0
theorem di_zero (n : Nat) : DI n fdZ := ⟨by show (⟨#[]⟩ : ByteArray).size ≤ n; simp [ByteArray.size], i64_zero, i64_zero, i64_zero, (fun u h => by cases h), (fun u h => by cases h), (fun u h => by cases h), (fun u h => by cases h), by show 0 ≤ _; omega, by show 0 ≤ _; omega, by show 0 ≤ _; omega, by show 0 ≤ _; omega⟩
theorem PRd.start {c : Cx} {w : World} {b p : Nat} (h : Rt c w p) (hb : w.heap[b]? = some (.cells (pa9 fdZ nl nl nl nl) 50)) : PRd c w b p 0 fdZ nl nl nl nl p w :=
  ⟨h, Bs.refl _ _ _, hb, ORow.nil _ _ _ _ _, ORow.nil _ _ _ _ _, ORow.nil _ _ _ _ _, ORow.nil _ _ _ _ _, di_zero _, Nat.le_refl _, fun _ => rfl, fun _ => ⟨rfl, rfl⟩, fun _ => ⟨rfl, rfl⟩, fun _ => ⟨rfl, rfl⟩, fun _ => ⟨rfl, rfl⟩, by have := h.lt; have := h.hB; omega, fun x r0 hx hd => ⟨rfl, hd⟩⟩
theorem PRd.head {c : Cx} {w : World} {b p : Nat} {d : FD} {su sc si sn : Value} {p1 p3 : Nat} {wr w3 : World} (h : PRd c w b p 0 d su sc si sn p1 wr) (d' : FD) (hk : Bs c.t b wr w3) (hadv : p1 < p3) (hr : Rt c w3 p3) (hd' : d'.name.size ≤ c.n ∧ I64 d'.line ∧ I64 d'.params ∧ I64 d'.regs ∧ d' = hd5 d') (hbx : w3.heap[b]? = some (.cells (pa9 d' nl nl nl nl) 50))
    (hq : ∀ (y : FD) r0, (I64 y.line ∧ I64 y.params ∧ I64 y.regs ∧ y = hd5 y) → c.bs.drop p1 = headE y ++ r0 → d' = y ∧ c.bs.drop p3 = r0) : PRd c w b p 1 d' nl nl nl nl p3 w3 := by
  obtain ⟨q1, q2, q3, q4, q5⟩ := hd'
  have l1 : d'.ups = [] := by rw [q5]; rfl
  have l2 : d'.consts = [] := by rw [q5]; rfl
  have l3 : d'.ins = [] := by rw [q5]; rfl
  have l4 : d'.named = [] := by rw [q5]; rfl
  refine ⟨hr, h.bs.trans hk, hbx, by rw [l1]; exact ORow.nil _ _ _ _ _, by rw [l2]; exact ORow.nil _ _ _ _ _, by rw [l3]; exact ORow.nil _ _ _ _ _, by rw [l4]; exact ORow.nil _ _ _ _ _, ⟨q1, q2, q3, q4, by rw [l1]; simp, by rw [l2]; simp, by rw [l3]; simp, by rw [l4]; simp, by rw [l1]; simp, by rw [l2]; simp, by rw [l3]; simp, by rw [l4]; simp⟩, by rw [l3]; have := h.adv; simp at this ⊢; omega, (fun h => by omega), fun _ => ⟨rfl, l1⟩, fun _ => ⟨rfl, l2⟩, fun _ => ⟨rfl, l3⟩, fun _ => ⟨rfl, l4⟩, h.lt, fun x r0 hx hd => ?_⟩
  obtain ⟨_, g2⟩ := h.cm x r0 hx hd
  have g3 : c.bs.drop p1 = headE (hd5 x) ++ (prest x 1 ++ r0) := by rw [g2]; simp [prest, protoL, headE, hd5, List.append_assoc]
  obtain ⟨g4, g5⟩ := hq (hd5 x) _ ⟨hx.line, hx.params, hx.regs, rfl⟩ g3
  exact ⟨g4, g5⟩
theorem PRd.head_no {c : Cx} {w : World} {b p : Nat} {d : FD} {su sc si sn : Value} {p1 : Nat} {wr : World} (h : PRd c w b p 0 d su sc si sn p1 wr) (hx : ∀ (y : FD) r0, (I64 y.line ∧ I64 y.params ∧ I64 y.regs ∧ y = hd5 y) → c.bs.drop p1 ≠ headE y ++ r0) (y : FD) (r0 : List UInt8) (hy : FOk y) : c.bs.drop p ≠ protoL y ++ r0 := fun hd => by
  obtain ⟨_, g2⟩ := h.cm y r0 hy hd
  exact hx (hd5 y) (prest y 1 ++ r0) ⟨hy.line, hy.params, hy.regs, rfl⟩ (by rw [g2]; simp [prest, protoL, headE, hd5, List.append_assoc])

theorem PRd.ups {c : Cx} {w : World} {b p : Nat} {d : FD} {su sc si sn : Value} {p1 p3 : Nat} {wr w3 : World} (h : PRd c w b p 1 d su sc si sn p1 wr) (xs : List UD) (sv : Value) (hk : Bs c.t b wr w3) (hadv : p1 + xs.length < p3) (hr : Rt c w3 p3) (hxb : ∀ x ∈ xs, I64 x.i) (hxl : xs.length ≤ 1000000) (hbx : w3.heap[b]? = some (.cells (pa9 d sv sc si sn) 50)) (ho : ORow w3 wr.heap.size 110 2 UD.cells sv xs)
    (hq : ∀ (ys : List UD) r0, (∀ y ∈ ys, I64 y.i) → c.bs.drop p1 = listL upL ys ++ r0 → xs = ys ∧ c.bs.drop p3 = r0) : PRd c w b p 2 { d with ups := xs } sv sc si sn p3 w3 := by
  refine ⟨hr, h.bs.trans hk, hbx, ho.base h.bs.size, h.rc.bs2 hk h.lt h.hb (by decide), h.ri.bs2 hk h.lt h.hb (by decide), h.rn.bs2 hk h.lt h.hb (by decide), ⟨h.di.name, h.di.line, h.di.params, h.di.regs, hxb, h.di.consts, h.di.ins, h.di.named, hxl, h.di.lc, h.di.li, h.di.ln⟩, by have := h.adv; show p + d.ins.length + _ ≤ p3; omega, (fun h => by omega), (fun h => by omega), fun _ => h.zc (by omega), fun _ => h.zi (by omega), fun _ => h.zn (by omega), h.lt, fun x r0 hx hd => ?_⟩
  obtain ⟨g1, g2⟩ := h.cm x r0 hx hd
  have g3 : c.bs.drop p1 = listL upL x.ups ++ (prest x 2 ++ r0) := by rw [g2]; simp [prest, List.append_assoc]
  obtain ⟨g4, g5⟩ := hq x.ups _ hx.ups g3
  refine ⟨?_, g5⟩
  rw [g1, g4]; rfl
theorem PRd.ups_no {c : Cx} {w : World} {b p : Nat} {d : FD} {su sc si sn : Value} {p1 : Nat} {wr : World} (h : PRd c w b p 1 d su sc si sn p1 wr) (hx : ∀ (ys : List UD) r0, (∀ y ∈ ys, I64 y.i) → c.bs.drop p1 ≠ listL upL ys ++ r0) (y : FD) (r0 : List UInt8) (hy : FOk y) : c.bs.drop p ≠ protoL y ++ r0 := fun hd => by
  obtain ⟨_, g2⟩ := h.cm y r0 hy hd
  exact hx y.ups (prest y 2 ++ r0) hy.ups (by rw [g2]; simp [prest, List.append_assoc])
set_option maxRecDepth 20000 in
set_option maxHeartbeats 4000000 in
theorem rups_any (c : Cx) (p b : Nat) (d : FD) (su sc si sn : Value) (w : World) (h : Rt c w p) (hb : w.heap[b]? = some (.cells (pa9 d nl sc si sn) 50)) (hlb : c.B ≤ b) :
    Calls Tryz.prog 60 #[.pointer (some ⟨c.t, 0, none⟩), .pointer (some ⟨b, 0, none⟩)] w (UpsG c p b (fun sv => pa9 d sv sc si sn) 50 w) := by
  have HT : Hid _ := rth_up c p b 5 (fun sv => pa9 d sv sc si sn) 50 w h hb (fun s => rfl) (fun s s' => rfl) (by decide) hlb
  have hmf := mkf
  clear h hb
  go_enter Tryz.func60, Tryz.ntmps60
  go_wp2_with fail
  refine Calls.mono HT.out ?_
  rintro e w1 ⟨hk, ⟨x, p1, rfl, hr⟩ | ⟨rfl, hx⟩⟩
  · go_wp2_with fail
    go_end0
    exact ⟨hk, .inl ⟨x, p1, rfl, hr⟩⟩
  · exact ⟨rfl, hk, .inr ⟨rfl, hx⟩⟩

theorem PRd.consts {c : Cx} {w : World} {b p : Nat} {d : FD} {su sc si sn : Value} {p1 p3 : Nat} {wr w3 : World} (h : PRd c w b p 2 d su sc si sn p1 wr) (xs : List VD) (sv : Value) (hk : Bs c.t b wr w3) (hadv : p1 + xs.length < p3) (hr : Rt c w3 p3) (hxb : ∀ x ∈ xs, I64 x.n ∧ x.f < 18446744073709551616 ∧ x.s.size ≤ c.n) (hxl : xs.length ≤ 1000000) (hbx : w3.heap[b]? = some (.cells (pa9 d su sv si sn) 50)) (ho : ORow w3 wr.heap.size 113 5 VD.cells sv xs)
    (hq : ∀ (ys : List VD) r0, (∀ y ∈ ys, COk y) → c.bs.drop p1 = listL constL ys ++ r0 → xs = ys ∧ c.bs.drop p3 = r0) : PRd c w b p 3 { d with consts := xs } su sv si sn p3 w3 := by
  refine ⟨hr, h.bs.trans hk, hbx, h.ru.bs2 hk h.lt h.hb (by decide), ho.base h.bs.size, h.ri.bs2 hk h.lt h.hb (by decide), h.rn.bs2 hk h.lt h.hb (by decide), ⟨h.di.name, h.di.line, h.di.params, h.di.regs, h.di.ups, hxb, h.di.ins, h.di.named, h.di.lu, hxl, h.di.li, h.di.ln⟩, by have := h.adv; show p + d.ins.length + _ ≤ p3; omega, (fun h => by omega), (fun h => by omega), (fun h => by omega), fun _ => h.zi (by omega), fun _ => h.zn (by omega), h.lt, fun x r0 hx hd => ?_⟩
  obtain ⟨g1, g2⟩ := h.cm x r0 hx hd
  have g3 : c.bs.drop p1 = listL constL x.consts ++ (prest x 3 ++ r0) := by rw [g2]; simp [prest, List.append_assoc]
  obtain ⟨g4, g5⟩ := hq x.consts _ hx.consts g3
  refine ⟨?_, g5⟩
  rw [g1, g4]; rfl
theorem PRd.consts_no {c : Cx} {w : World} {b p : Nat} {d : FD} {su sc si sn : Value} {p1 : Nat} {wr : World} (h : PRd c w b p 2 d su sc si sn p1 wr) (hx : ∀ (ys : List VD) r0, (∀ y ∈ ys, COk y) → c.bs.drop p1 ≠ listL constL ys ++ r0) (y : FD) (r0 : List UInt8) (hy : FOk y) : c.bs.drop p ≠ protoL y ++ r0 := fun hd => by
  obtain ⟨_, g2⟩ := h.cm y r0 hy hd
  exact hx y.consts (prest y 3 ++ r0) hy.consts (by rw [g2]; simp [prest, List.append_assoc])
set_option maxRecDepth 20000 in
set_option maxHeartbeats 4000000 in
theorem rconsts_any (c : Cx) (p b : Nat) (d : FD) (su sc si sn : Value) (w : World) (h : Rt c w p) (hb : w.heap[b]? = some (.cells (pa9 d su nl si sn) 50)) (hlb : c.B ≤ b) :
    Calls Tryz.prog 61 #[.pointer (some ⟨c.t, 0, none⟩), .pointer (some ⟨b, 0, none⟩)] w (CosG c p b (fun sv => pa9 d su sv si sn) 50 w) := by
  have HT : Hid _ := rth_const c p b 6 (fun sv => pa9 d su sv si sn) 50 w h hb (fun s => rfl) (fun s s' => rfl) (by decide) hlb
  have hmf := mkf
  clear h hb
  go_enter Tryz.func61, Tryz.ntmps61
  go_wp2_with fail
  refine Calls.mono HT.out ?_
  rintro e w1 ⟨hk, ⟨x, p1, rfl, hr⟩ | ⟨rfl, hx⟩⟩
  · go_wp2_with fail
    go_end0
    exact ⟨hk, .inl ⟨x, p1, rfl, hr⟩⟩
  · exact ⟨rfl, hk, .inr ⟨rfl, hx⟩⟩

theorem PRd.steps {c : Cx} {w : World} {b p : Nat} {d : FD} {su sc si sn : Value} {p1 p3 : Nat} {wr w3 : World} (h : PRd c w b p 3 d su sc si sn p1 wr) (xs : List ID) (sv : Value) (hk : Bs c.t b wr w3) (hadv : p1 + xs.length < p3) (hr : Rt c w3 p3) (hxb : ∀ x ∈ xs, I64 x.op ∧ I64 x.a ∧ I64 x.b ∧ I64 x.c ∧ I64 x.d) (hxl : xs.length ≤ 1000000) (hbx : w3.heap[b]? = some (.cells (pa9 d su sc sv sn) 50)) (ho : ORow w3 wr.heap.size 52 5 ID.cells sv xs)
    (hq : ∀ (ys : List ID) r0, (∀ y ∈ ys, (I64 y.op ∧ I64 y.a ∧ I64 y.b ∧ I64 y.c ∧ I64 y.d)) → c.bs.drop p1 = listL stepL ys ++ r0 → xs = ys ∧ c.bs.drop p3 = r0) : PRd c w b p 4 { d with ins := xs } su sc sv sn p3 w3 := by
  refine ⟨hr, h.bs.trans hk, hbx, h.ru.bs2 hk h.lt h.hb (by decide), h.rc.bs2 hk h.lt h.hb (by decide), ho.base h.bs.size, h.rn.bs2 hk h.lt h.hb (by decide), ⟨h.di.name, h.di.line, h.di.params, h.di.regs, h.di.ups, h.di.consts, hxb, h.di.named, h.di.lu, h.di.lc, hxl, h.di.ln⟩, by have := h.adv; have h0 := (h.zi (by omega)).2; rw [h0] at this; show p + xs.length + _ ≤ p3; simp at this; omega, (fun h => by omega), (fun h => by omega), (fun h => by omega), (fun h => by omega), fun _ => h.zn (by omega), h.lt, fun x r0 hx hd => ?_⟩
  obtain ⟨g1, g2⟩ := h.cm x r0 hx hd
  have g3 : c.bs.drop p1 = listL stepL x.ins ++ (prest x 4 ++ r0) := by rw [g2]; simp [prest, List.append_assoc]
  obtain ⟨g4, g5⟩ := hq x.ins _ hx.ins g3
  refine ⟨?_, g5⟩
  rw [g1, g4]; rfl
theorem PRd.steps_no {c : Cx} {w : World} {b p : Nat} {d : FD} {su sc si sn : Value} {p1 : Nat} {wr : World} (h : PRd c w b p 3 d su sc si sn p1 wr) (hx : ∀ (ys : List ID) r0, (∀ y ∈ ys, (I64 y.op ∧ I64 y.a ∧ I64 y.b ∧ I64 y.c ∧ I64 y.d)) → c.bs.drop p1 ≠ listL stepL ys ++ r0) (y : FD) (r0 : List UInt8) (hy : FOk y) : c.bs.drop p ≠ protoL y ++ r0 := fun hd => by
  obtain ⟨_, g2⟩ := h.cm y r0 hy hd
  exact hx y.ins (prest y 4 ++ r0) hy.ins (by rw [g2]; simp [prest, List.append_assoc])
set_option maxRecDepth 20000 in
set_option maxHeartbeats 4000000 in
theorem rsteps_any (c : Cx) (p b : Nat) (d : FD) (su sc si sn : Value) (w : World) (h : Rt c w p) (hb : w.heap[b]? = some (.cells (pa9 d su sc nl sn) 50)) (hlb : c.B ≤ b) :
    Calls Tryz.prog 62 #[.pointer (some ⟨c.t, 0, none⟩), .pointer (some ⟨b, 0, none⟩)] w (InsG c p b (fun sv => pa9 d su sc sv sn) 50 w) := by
  have HT : Hid _ := rth_ins c p b 7 (fun sv => pa9 d su sc sv sn) 50 w h hb (fun s => rfl) (fun s s' => rfl) (by decide) hlb
  have hmf := mkf
  clear h hb
  go_enter Tryz.func62, Tryz.ntmps62
  go_wp2_with fail
  refine Calls.mono HT.out ?_
  rintro e w1 ⟨hk, ⟨x, p1, rfl, hr⟩ | ⟨rfl, hx⟩⟩
  · go_wp2_with fail
    go_end0
    exact ⟨hk, .inl ⟨x, p1, rfl, hr⟩⟩
  · exact ⟨rfl, hk, .inr ⟨rfl, hx⟩⟩

theorem PRd.names {c : Cx} {w : World} {b p : Nat} {d : FD} {su sc si sn : Value} {p1 p3 : Nat} {wr w3 : World} (h : PRd c w b p 4 d su sc si sn p1 wr) (xs : List ND) (sv : Value) (hk : Bs c.t b wr w3) (hadv : p1 + xs.length < p3) (hr : Rt c w3 p3) (hxb : ∀ x ∈ xs, x.s.size ≤ c.n ∧ I64 x.reg ∧ I64 x.fr ∧ I64 x.to) (hxl : xs.length ≤ 1000000) (hbx : w3.heap[b]? = some (.cells (pa9 d su sc si sv) 50)) (ho : ORow w3 wr.heap.size 116 4 ND.cells sv xs)
    (hq : ∀ (ys : List ND) r0, (∀ y ∈ ys, (I64 y.reg ∧ I64 y.fr ∧ I64 y.to)) → c.bs.drop p1 = listL namedL ys ++ r0 → xs = ys ∧ c.bs.drop p3 = r0) : PRd c w b p 5 { d with named := xs } su sc si sv p3 w3 := by
  refine ⟨hr, h.bs.trans hk, hbx, h.ru.bs2 hk h.lt h.hb (by decide), h.rc.bs2 hk h.lt h.hb (by decide), h.ri.bs2 hk h.lt h.hb (by decide), ho.base h.bs.size, ⟨h.di.name, h.di.line, h.di.params, h.di.regs, h.di.ups, h.di.consts, h.di.ins, hxb, h.di.lu, h.di.lc, h.di.li, hxl⟩, by have := h.adv; show p + d.ins.length + _ ≤ p3; omega, (fun h => by omega), (fun h => by omega), (fun h => by omega), (fun h => by omega), (fun h => by omega), h.lt, fun x r0 hx hd => ?_⟩
  obtain ⟨g1, g2⟩ := h.cm x r0 hx hd
  have g3 : c.bs.drop p1 = listL namedL x.named ++ (prest x 5 ++ r0) := by rw [g2]; simp [prest, List.append_assoc]
  obtain ⟨g4, g5⟩ := hq x.named _ hx.named g3
  refine ⟨?_, g5⟩
  rw [g1, g4]; rfl
theorem PRd.names_no {c : Cx} {w : World} {b p : Nat} {d : FD} {su sc si sn : Value} {p1 : Nat} {wr : World} (h : PRd c w b p 4 d su sc si sn p1 wr) (hx : ∀ (ys : List ND) r0, (∀ y ∈ ys, (I64 y.reg ∧ I64 y.fr ∧ I64 y.to)) → c.bs.drop p1 ≠ listL namedL ys ++ r0) (y : FD) (r0 : List UInt8) (hy : FOk y) : c.bs.drop p ≠ protoL y ++ r0 := fun hd => by
  obtain ⟨_, g2⟩ := h.cm y r0 hy hd
  exact hx y.named (prest y 5 ++ r0) hy.named (by rw [g2]; simp [prest, List.append_assoc])
set_option maxRecDepth 20000 in
set_option maxHeartbeats 4000000 in
theorem rnames_any (c : Cx) (p b : Nat) (d : FD) (su sc si sn : Value) (w : World) (h : Rt c w p) (hb : w.heap[b]? = some (.cells (pa9 d su sc si nl) 50)) (hlb : c.B ≤ b) :
    Calls Tryz.prog 63 #[.pointer (some ⟨c.t, 0, none⟩), .pointer (some ⟨b, 0, none⟩)] w (NasG c p b (fun sv => pa9 d su sc si sv) 50 w) := by
  have HT : Hid _ := rth_named c p b 8 (fun sv => pa9 d su sc si sv) 50 w h hb (fun s => rfl) (fun s s' => rfl) (by decide) hlb
  have hmf := mkf
  clear h hb
  go_enter Tryz.func63, Tryz.ntmps63
  go_wp2_with fail
  refine Calls.mono HT.out ?_
  rintro e w1 ⟨hk, ⟨x, p1, rfl, hr⟩ | ⟨rfl, hx⟩⟩
  · go_wp2_with fail
    go_end0
    exact ⟨hk, .inl ⟨x, p1, rfl, hr⟩⟩
  · exact ⟨rfl, hk, .inr ⟨rfl, hx⟩⟩

abbrev ProG (c : Cx) (p b : Nat) (w : World) : Ending → World → Prop := GotZ c p b (fun d : FD => d.ins.length) (fun W (d : FD) => DI c.n d ∧ ∃ su sc si sn, W.heap[b]? = some (.cells (pa9 d su sc si sn) 50) ∧ ORow W w.heap.size 110 2 UD.cells su d.ups ∧ ORow W w.heap.size 113 5 VD.cells sc d.consts ∧ ORow W w.heap.size 52 5 ID.cells si d.ins ∧ ORow W w.heap.size 116 4 ND.cells sn d.named) FOk protoL w
set_option maxRecDepth 20000 in
set_option maxHeartbeats 16000000 in
theorem rpr_any (c : Cx) (p b : Nat) (w : World) (h : Rt c w p) (hb : w.heap[b]? = some (.cells (pa9 fdZ nl nl nl nl) 50)) (hlb : c.B ≤ b) :
    Calls Tryz.prog 125 #[.pointer (some ⟨c.t, 0, none⟩), .pointer (some ⟨b, 0, none⟩)] w (ProG c p b w) := by
  have H0 : Hid (PRd c w b p 0 fdZ nl nl nl nl p w) := PRd.start h hb
  have t3 := h.c3
  clear h hb
  go_enter Tryz.func125, Tryz.ntmps125
  go_wp2_with fail
  clear t3
  go_loopw [11] (fun i wr => ∃ (m p1 : Nat) (d : FD) (su sc si sn : Value), m ≤ 5 ∧ i = .int .i64 m ∧ Hid (PRd c w b p m d su sc si sn p1 wr)) (fun i _ => 5 - (intOf i).toNat)
  case atStart => exact ⟨0, p, fdZ, nl, nl, nl, nl, Nat.zero_le _, rfl, H0⟩
  case round =>
    clear H0
    obtain ⟨m, p1, d, su, sc, si, sn, hm, rfl, HS⟩ := hrel
    by_cases k1 : m < 5
    · have hm5 : m = 0 ∨ m = 1 ∨ m = 2 ∨ m = 3 ∨ m = 4 := by omega
      clear k1 hm
      rcases hm5 with rfl | rfl | rfl | rfl | rfl
      · have e0 : wr.cell? ⟨c.gp, 0, none⟩ = some (MV 59 c.t) := (blk_cell HS.out.rt.pa.p 0).trans rfl
        have HP : Hid _ := rhd_any c p1 b wr HS.out.rt (by
          have h0 := HS.out.hb
          rw [HS.out.z0 rfl, (HS.out.zu (by omega)).1, (HS.out.zc (by omega)).1, (HS.out.zi (by omega)).1, (HS.out.zn (by omega)).1] at h0
          exact h0) hlb
        go_wp2_with fail
        refine Calls.mono HP.out ?_
        rintro e w3 ⟨hk, ⟨x, p3, rfl, hpp, hr, ⟨hx1, hx2⟩, hq⟩ | ⟨rfl, hx⟩⟩
        · have HS3 : Hid (PRd c w b p 1 x nl nl nl nl p3 w3) := HS.out.head x hk hpp hr hx1 hx2 hq
          clear hk hr hx1 hx2 hq HS e0 HP
          go_wp2_with fail
          go_roundw
          case rel => exact ⟨1, p3, x, nl, nl, nl, nl, by omega, by go_num, HS3⟩
          case measure => simp [intOf]
        · exact ⟨rfl, HS.out.bs.trans hk, .inr ⟨rfl, HS.out.head_no hx⟩⟩
      · have e0 : wr.cell? ⟨c.gp, 1, none⟩ = some (MV 60 c.t) := (blk_cell HS.out.rt.pa.p 1).trans rfl
        have HP : Hid _ := rups_any c p1 b d su sc si sn wr HS.out.rt (by
          have h0 := HS.out.hb
          rw [(HS.out.zu (by omega)).1] at h0
          exact h0) hlb
        go_wp2_with fail
        refine Calls.mono HP.out ?_
        rintro e w3 ⟨hk, ⟨xs, p3, rfl, hpp, hr, ⟨hx1, hx2, sv, hx3, hx4⟩, hq⟩ | ⟨rfl, hx⟩⟩
        · have HS3 : Hid (PRd c w b p 2 { d with ups := xs } sv sc si sn p3 w3) := HS.out.ups xs sv hk hpp hr hx1 hx2 hx3 hx4 hq
          clear hk hr hx1 hx2 hx3 hx4 hq HS e0 HP
          go_wp2_with fail
          go_roundw
          case rel => exact ⟨2, p3, _, sv, sc, si, sn, by omega, by go_num, HS3⟩
          case measure => simp [intOf]
        · exact ⟨rfl, HS.out.bs.trans hk, .inr ⟨rfl, HS.out.ups_no hx⟩⟩
      · have e0 : wr.cell? ⟨c.gp, 2, none⟩ = some (MV 61 c.t) := (blk_cell HS.out.rt.pa.p 2).trans rfl
        have HP : Hid _ := rconsts_any c p1 b d su sc si sn wr HS.out.rt (by
          have h0 := HS.out.hb
          rw [(HS.out.zc (by omega)).1] at h0
          exact h0) hlb
        go_wp2_with fail
        refine Calls.mono HP.out ?_
        rintro e w3 ⟨hk, ⟨xs, p3, rfl, hpp, hr, ⟨hx1, hx2, sv, hx3, hx4⟩, hq⟩ | ⟨rfl, hx⟩⟩
        · have HS3 : Hid (PRd c w b p 3 { d with consts := xs } su sv si sn p3 w3) := HS.out.consts xs sv hk hpp hr hx1 hx2 hx3 hx4 hq
          clear hk hr hx1 hx2 hx3 hx4 hq HS e0 HP
          go_wp2_with fail
          go_roundw
          case rel => exact ⟨3, p3, _, su, sv, si, sn, by omega, by go_num, HS3⟩
          case measure => simp [intOf]
        · exact ⟨rfl, HS.out.bs.trans hk, .inr ⟨rfl, HS.out.consts_no hx⟩⟩
      · have e0 : wr.cell? ⟨c.gp, 3, none⟩ = some (MV 62 c.t) := (blk_cell HS.out.rt.pa.p 3).trans rfl
        have HP : Hid _ := rsteps_any c p1 b d su sc si sn wr HS.out.rt (by
          have h0 := HS.out.hb
          rw [(HS.out.zi (by omega)).1] at h0
          exact h0) hlb
        go_wp2_with fail
        refine Calls.mono HP.out ?_
        rintro e w3 ⟨hk, ⟨xs, p3, rfl, hpp, hr, ⟨hx1, hx2, sv, hx3, hx4⟩, hq⟩ | ⟨rfl, hx⟩⟩
        · have HS3 : Hid (PRd c w b p 4 { d with ins := xs } su sc sv sn p3 w3) := HS.out.steps xs sv hk hpp hr hx1 hx2 hx3 hx4 hq
          clear hk hr hx1 hx2 hx3 hx4 hq HS e0 HP
          go_wp2_with fail
          go_roundw
          case rel => exact ⟨4, p3, _, su, sc, sv, sn, by omega, by go_num, HS3⟩
          case measure => simp [intOf]
        · exact ⟨rfl, HS.out.bs.trans hk, .inr ⟨rfl, HS.out.steps_no hx⟩⟩
      · have e0 : wr.cell? ⟨c.gp, 4, none⟩ = some (MV 63 c.t) := (blk_cell HS.out.rt.pa.p 4).trans rfl
        have HP : Hid _ := rnames_any c p1 b d su sc si sn wr HS.out.rt (by
          have h0 := HS.out.hb
          rw [(HS.out.zn (by omega)).1] at h0
          exact h0) hlb
        go_wp2_with fail
        refine Calls.mono HP.out ?_
        rintro e w3 ⟨hk, ⟨xs, p3, rfl, hpp, hr, ⟨hx1, hx2, sv, hx3, hx4⟩, hq⟩ | ⟨rfl, hx⟩⟩
        · have HS3 : Hid (PRd c w b p 5 { d with named := xs } su sc si sv p3 w3) := HS.out.names xs sv hk hpp hr hx1 hx2 hx3 hx4 hq
          clear hk hr hx1 hx2 hx3 hx4 hq HS e0 HP
          go_wp2_with fail
          go_roundw
          case rel => exact ⟨5, p3, _, su, sc, si, sv, by omega, by go_num, HS3⟩
          case measure => simp [intOf]
        · exact ⟨rfl, HS.out.bs.trans hk, .inr ⟨rfl, HS.out.names_no hx⟩⟩
    · obtain rfl : m = 5 := by omega
      go_wp2_with fail
      go_end0
      have S := HS.out
      refine ⟨S.bs, .inl ⟨d, p1, rfl, by have := S.adv; show p + d.ins.length < p1; omega, S.rt, ⟨S.di, su, sc, si, sn, S.hb, S.ru, S.rc, S.ri, S.rn⟩, fun y r0 hy hd => ?_⟩⟩
      obtain ⟨g1, g2⟩ := S.cm y r0 hy hd
      exact ⟨g1, g2⟩
end Go.Proofs.YtfkeklndcjkgcaaGreatDoor

/-
  OWN WORK. The program's tape that is read: the list of protos.
-/
namespace Go.Proofs.YtfkeklndcjkgcaaGreatDoor
open Go.RowKit
attribute [local go_sem] run_store_float
set_option linter.unusedVariables false
set_option linter.unusedSimpArgs false

theorem Rt.put2 {c : Cx} {w : World} {p b : Nat} (h : Rt c w p) (hb : b ≠ c.t ∧ b ≠ c.ab ∧ b ≠ c.gp ∧ b ≠ c.gm) (j : Nat) (v : Value) : Rt c (w.setCell ⟨b, j, none⟩ v) p :=
  ⟨blk_other h.tp hb.1 _ _, fun i u hu => (cell_of_block (p := ⟨c.ab, c.off + i, none⟩) (Below.heap_setCell _ _ _ _ (by show c.ab ≠ b; exact hb.2.1.symm))).trans (h.bytes i u hu), ⟨blk_other h.pa.p hb.2.2.1 _ _, blk_other h.pa.m hb.2.2.2 _ _, h.pa.np, h.pa.nm⟩, h.lab, h.lt, h.lp, h.lm, h.ne, by simpa using h.hB, h.hn, h.hn2, h.hcap, h.hcm, h.hp⟩
/-- A proto whose lists are in blocks of their own. -/
structure FC.orow (w : World) (lo : Nat) (x : FC) : Prop where
  u : ORow w lo 110 2 UD.cells (.slice x.au x.d.ups.length x.cu) x.d.ups
  c : ORow w lo 113 5 VD.cells (.slice x.ac x.d.consts.length x.cc) x.d.consts
  i : ORow w lo 52 5 ID.cells (.slice x.ai x.d.ins.length x.ci) x.d.ins
  n : ORow w lo 116 4 ND.cells (.slice x.an x.d.named.length x.cn) x.d.named
theorem FC.orow.later {w w' : World} {lo : Nat} {x : FC} (h : x.orow w lo) (hb : Below w.heap.size w w') : x.orow w' lo := ⟨h.u.later hb, h.c.later hb, h.i.later hb, h.n.later hb⟩
theorem FC.orow.base {w : World} {lo lo' : Nat} {x : FC} (h : x.orow w lo) (hl : lo' ≤ lo) : x.orow w lo' := ⟨h.u.base hl, h.c.base hl, h.i.base hl, h.n.base hl⟩
theorem FC.orow.keep {w w' : World} {lo : Nat} {x : FC} (h : x.orow w lo) (hk : ∀ j, lo ≤ j → j < w.heap.size → w'.heap[j]? = w.heap[j]?) : x.orow w' lo :=
  ⟨h.u.keep fun j ar hj he => hk j hj (blk_lt he), h.c.keep fun j ar hj he => hk j hj (blk_lt he), h.i.keep fun j ar hj he => hk j hj (blk_lt he), h.n.keep fun j ar hj he => hk j hj (blk_lt he)⟩
/-- A write into a block of another kind. -/
theorem FC.orow.put {w : World} {lo q : Nat} {x : FC} {arr : Array Value} {T : TypeId} {fz : Nat × Nat} (h : x.orow w lo) (hq : w.heap[q]? = some (.cells arr T fz)) (h1 : T ≠ 110) (h2 : T ≠ 113) (h3 : T ≠ 52) (h4 : T ≠ 116) (j : Nat) (v : Value) : x.orow (w.setCell ⟨q, j, none⟩ v) lo :=
  ⟨h.u.put hq h1 j v, h.c.put hq h2 j v, h.i.put hq h3 j v, h.n.put hq h4 j v⟩
/-- Behind an append to a list of protos. -/
theorem FC.orow.app {w w' : World} {lo B : Nat} {x : FC} {sv : Value} {xs : List FC} (h : x.orow w lo) (ho : ORow w B 50 9 FC.cells sv xs) (hg : w.grownBy w' sv.ownBlock) : x.orow w' lo :=
  ⟨ho.row2 hg h.u (by decide), ho.row2 hg h.c (by decide), ho.row2 hg h.i (by decide), ho.row2 hg h.n (by decide)⟩
theorem FC.orow.lie {w : World} {lo : Nat} {x : FC} (h : x.orow w lo) : x.lie w := by
  refine ⟨?_, ?_, ?_, ?_⟩
  · obtain ⟨a, cap, e, hs⟩ := h.u.lies UD.len
    cases e; exact hs
  · obtain ⟨a, cap, e, hs⟩ := h.c.lies VD.len
    cases e; exact hs
  · obtain ⟨a, cap, e, hs⟩ := h.i.lies ID.len
    cases e; exact hs
  · obtain ⟨a, cap, e, hs⟩ := h.n.lies ND.len
    cases e; exact hs
theorem ORow.at_ {α : Type} {w : World} {B : Nat} {et : TypeId} {k : Nat} {cells : α → List Value} {a : Option Addr} {n cap : Nat} {xs : List α} (h : ORow w B et k cells (.slice a n cap) xs) {g : Nat} (ha : a = some ⟨g, 0, Option.none⟩) : B ≤ g ∧ g < w.heap.size := by
  rcases h.2 with ⟨e, _⟩ | ⟨g', cap', cur, e, e2, e3, _⟩
  · cases e; cases ha
  · cases e; cases ha
    exact ⟨e2, blk_lt e3⟩
/-- No two protos share a list's block. -/
def Dis (xs : List FC) : Prop := ∀ (i j : Nat) (x y : FC), i < j → xs[i]? = some x → xs[j]? = some y → ∀ g : Nat, (x.au = some ⟨g, 0, none⟩ → y.au ≠ some ⟨g, 0, none⟩) ∧ (x.ac = some ⟨g, 0, none⟩ → y.ac ≠ some ⟨g, 0, none⟩) ∧ (x.ai = some ⟨g, 0, none⟩ → y.ai ≠ some ⟨g, 0, none⟩) ∧ (x.an = some ⟨g, 0, none⟩ → y.an ≠ some ⟨g, 0, none⟩)
theorem dis_nil : Dis [] := fun i j x y h hx => by simp at hx
theorem dis_snoc {xs : List FC} {y : FC} {w w' : World} {lo lo' : Nat} (h : Dis xs) (hx : ∀ x ∈ xs, x.orow w lo) (hy : y.orow w' lo') (hl : w.heap.size ≤ lo') : Dis (xs ++ [y]) := by
  intro i j x z hij hi hj g
  by_cases hjl : j < xs.length
  · rw [List.getElem?_append_left hjl] at hj
    rw [List.getElem?_append_left (by omega)] at hi
    exact h i j x z hij hi hj g
  · have hj' := (List.getElem?_eq_some_iff.1 hj).1
    simp only [List.length_append, List.length_cons, List.length_nil] at hj'
    have hjn : j = xs.length := by omega
    rw [List.getElem?_append_left (by omega)] at hi
    rw [hjn, List.getElem?_append_right (Nat.le_refl _), Nat.sub_self] at hj
    obtain rfl : y = z := by simpa using hj
    have ox := hx x (List.mem_of_getElem? hi)
    refine ⟨fun e1 e2 => ?_, fun e1 e2 => ?_, fun e1 e2 => ?_, fun e1 e2 => ?_⟩
    · have a1 := ox.u.at_ e1; have a2 := hy.u.at_ e2; omega
    · have a1 := ox.c.at_ e1; have a2 := hy.c.at_ e2; omega
    · have a1 := ox.i.at_ e1; have a2 := hy.i.at_ e2; omega
    · have a1 := ox.n.at_ e1; have a2 := hy.n.at_ e2; omega
def insS (xs : List FC) : Nat := (xs.map fun x => x.d.ins.length).sum
theorem insS_snoc (xs : List FC) (x : FC) : insS (xs ++ [x]) = insS xs + x.d.ins.length := by simp [insS]

/-- A code that was read: in memory of its own. -/
structure CodeR (c : Cx) (w : World) (lo b : Nat) (sv : Value) (xs : List FC) : Prop where
  hb : w.heap[b]? = some (.cells #[sv] 29)
  row : ORow w lo 50 9 FC.cells sv xs
  own : ∀ x ∈ xs, x.orow w lo
  di : ∀ x ∈ xs, DI c.n x.d
  dis : Dis xs
  len : xs.length ≤ 1000000
/-- The list of protos is read, or the tape ends. -/
def ProsG (c : Cx) (p b : Nat) (w : World) (e : Ending) (w' : World) : Prop :=
  Bs c.t b w w' ∧ ((∃ xs sv p', e = .returned (.tuple #[]) ∧ p + insS xs < p' ∧ Rt c w' p' ∧ CodeR c w' w.heap.size b sv xs ∧ ∀ (ys : List FD) r0, (∀ y ∈ ys, FOk y) → c.bs.drop p = listL protoL ys ++ r0 → xs.map FC.d = ys ∧ c.bs.drop p' = r0) ∨ (e = .panicked CH ∧ ∀ (ys : List FD) r0, (∀ y ∈ ys, FOk y) → c.bs.drop p ≠ listL protoL ys ++ r0))

set_option maxRecDepth 20000 in
set_option maxHeartbeats 16000000 in
theorem rth_proto (c : Cx) (p b : Nat) (w : World) (h : Rt c w p) (hb : w.heap[b]? = some (.cells #[nl] 29)) (hlb : b ≠ c.t ∧ b ≠ c.ab ∧ b ≠ c.gp ∧ b ≠ c.gm) :
    Calls Tryz.prog 124 #[.pointer (some ⟨c.t, 0, none⟩), .pointer (some ⟨b, 0, none⟩), MV 125 c.t] w (ProsG c p b w) := by
  have H : Hid (Rt c w p) := h
  have HB : Hid (w.heap[b]? = some (.cells #[nl] 29)) := hb
  have hbt : b ≠ c.t := hlb.1
  have hn2 := h.hn2
  have hlt := h.lt
  have hBw := h.hB
  have e0 : w.cell? ⟨b, 0, none⟩ = some nl := (blk_cell hb 0).trans rfl
  clear h hb
  go_enter Tryz.func124, Tryz.ntmps124
  go_wp2_with fail
  refine (rcn_any c p 0 w H.out).mono ?_
  rintro e w1 ⟨hk, ⟨kk, p1, rfl, hpp, hpk, hr, hq⟩ | ⟨rfl, hx⟩⟩
  rotate_left
  · refine ⟨rfl, hk.to, .inr ⟨rfl, fun ys r0 hy hd => ?_⟩⟩
    obtain ⟨g1, g2⟩ := list_cnt protoL_ge hd
    exact hx ys.length _ g1 g2
  have t1 := hr.c1
  have HK1 : Hid (Bs c.t b w w1) := hk.to
  have HR1 : Hid (Rt c w1 p1) := hr
  have HB1 : Hid (w1.heap[b]? = some (.cells #[nl] 29)) := Bs.blkn (b := b) hk HB.out hbt
  have HQ1 : Hid (∀ (ys : List FD) r0, (∀ y ∈ ys, FOk y) → c.bs.drop p = listL protoL ys ++ r0 → kk = ys.length ∧ c.bs.drop p1 = ys.flatMap protoL ++ r0) := fun ys r0 hy hd => by
    obtain ⟨g1, g2⟩ := list_cnt protoL_ge hd
    exact hq ys.length _ g1 g2
  clear hk hr hq H HB e0
  go_wp2_with fail
  clear t1
  go_loopw [36] (fun i wr => ∃ (m p2 : Nat) (xs : List FC) (sv : Value), m ≤ kk ∧ i = .int .i64 m ∧ Hid (p + insS xs < p2) ∧ Hid (xs.length = m) ∧ Hid (Rt c wr p2) ∧ Hid (Bs c.t b w wr) ∧ Hid (CodeR c wr w.heap.size b sv xs) ∧ Hid (∀ (ys : List FD) r0, (∀ y ∈ ys, FOk y) → c.bs.drop p = listL protoL ys ++ r0 → kk = ys.length ∧ xs.map FC.d = ys.take m ∧ c.bs.drop p2 = (ys.drop m).flatMap protoL ++ r0)) (fun i _ => kk - (intOf i).toNat)
  case atStart => exact ⟨0, p1, [], nl, Nat.zero_le _, rfl, by show p + 0 < p1; omega, rfl, HR1, HK1, ⟨HB1.out, ORow.nil _ _ _ _ _, (fun x hx => by cases hx), (fun x hx => by cases hx), dis_nil, by simp⟩, fun ys r0 hy hd => ⟨(HQ1.out ys r0 hy hd).1, rfl, (HQ1.out ys r0 hy hd).2⟩⟩
  case round =>
    clear HR1 HK1 HB1 HQ1
    obtain ⟨m, p2, xs, sv, hm, rfl, HPM, HL, HR, HK, HC, HQ⟩ := hrel
    by_cases k1 : m < kk
    · have hy := bw1 wr (.cells (pa9 fdZ nl nl nl nl) 50)
      have hws : w.heap.size ≤ wr.heap.size := HK.out.size
      have hblt := blk_lt HC.out.hb
      have HP : Hid _ := rpr_any c p2 wr.heap.size (wr.alloc (.cells (pa9 fdZ nl nl nl nl) 50)) (HR.out.later hy) (blk_new _ _) HR.out.hB
      have HKY : Hid (Bs c.t b w (wr.alloc (.cells (pa9 fdZ nl nl nl nl) 50))) := HK.out.trans (Bs.of_below hy)
      have HBY : Hid ((wr.alloc (.cells (pa9 fdZ nl nl nl nl) 50)).heap[b]? = some (.cells #[sv] 29)) := blk_old HC.out.hb _
      obtain ⟨E, hE⟩ : ∃ E, E = wr.heap.size := ⟨_, rfl⟩
      have HE : Hid (E = wr.heap.size) := hE
      have hE1 : (wr.alloc (.cells (pa9 fdZ nl nl nl nl) 50)).heap.size = E + 1 := by rw [hE]; simp
      have HE1 : Hid ((wr.alloc (.cells (pa9 fdZ nl nl nl nl) 50)).heap.size = E + 1) := hE1
      rw [← hE] at HP
      clear hy HR HK hE1
      go_wp2_with fail
      rw [← hE]
      clear hE
      refine Calls.mono HP.out ?_
      rintro e w2 ⟨hk2, ⟨d, p3, rfl, hpp3, hr3, ⟨hdi, su, sc, si, sn, hbx, hru, hrc, hri, hrn⟩, hq3⟩ | ⟨rfl, hx⟩⟩
      · have HK2 : Hid (Bs c.t b w w2) := HKY.out.into hk2 (by have := HE.out; omega)
        have hb2 : w2.heap[b]? = some (.cells #[sv] 29) := hk2.blk HBY.out hbt (by have := HE.out; omega)
        have hold : ∀ j, w.heap.size ≤ j → j < wr.heap.size → w2.heap[j]? = wr.heap[j]? := fun j hj hjl => by
          have h1 := hk2.block j (by simp; omega) (by omega) (by have := HE.out; omega)
          rw [h1]
          cases ho : wr.heap[j]? with
          | none => have := Array.getElem?_eq_none_iff.1 ho; omega
          | some o => exact blk_old ho _
        have HO2 : Hid (ORow w2 w.heap.size 50 9 FC.cells sv xs) := HC.out.row.keep fun j ar hj he => hold j hj (blk_lt he)
        have HW2 : Hid (∀ x ∈ xs, x.orow w2 w.heap.size) := fun x hx => (HC.out.own x hx).keep hold
        obtain ⟨au, cu, rfl⟩ := hru.val
        obtain ⟨ac, cc, rfl⟩ := hrc.val
        obtain ⟨ai, ci, rfl⟩ := hri.val
        obtain ⟨an, cn, rfl⟩ := hrn.val
        obtain ⟨x, hxd⟩ : ∃ x : FC, x = ⟨d, au, cu, ac, cc, ai, ci, an, cn⟩ := ⟨_, rfl⟩
        have hxo : x.orow w2 (E + 1) := by rw [hxd]; rw [HE1.out] at hru hrc hri hrn; exact ⟨hru, hrc, hri, hrn⟩
        have hbx' : w2.heap[E]? = some (.cells (FC.cells x).toArray 50) := by rw [hxd]; exact hbx
        have hdx : d = x.d := by rw [hxd]
        have HXO : Hid (x.orow w2 (E + 1)) := hxo
        rw [hdx] at hdi hq3 hpp3
        clear hru hrc hri hrn hbx hxd hdx hxo hold
        have hnw := bw1 w2 (.cells (FC.cells x).toArray 50)
        have hnd : Below w2.heap.size w2 (w2.alloc (.cells (FC.cells x).toArray 50)).drew := hnw.drew
        obtain ⟨g', cap', w3, HA, hO3, hgr⟩ := (HO2.out.later hnd).app 27 144 (by kernel_rfl) (by kernel_rfl) (by decide) (by decide) x w2.heap.size 27 (blk_new _ _) rfl (by cases x; simp [FC.cells, Value.oneCell']) (by have := HL.out; omega) (by have := HK2.out.size; have := hnd.size; omega)
        have hb3 : w3.heap[b]? = some (.cells #[sv] 29) := (HO2.out.later hnd).other hgr (blk_later hnd hb2) (by decide)
        have HB3 : Hid (w3.heap[b]? = some (.cells #[sv] 29)) := hb3
        have HR3 : Hid (Rt c w3 p3) := (HO2.out.later hnd).rt hgr (hr3.later hnd) (by omega)
        have HK3 : Hid (Bs c.t b w w3) := (HO2.out.later hnd).grow (HK2.out.trans (Bs.of_below hnd)) (Nat.le_refl _) hgr
        have HO3 : Hid (ORow w3 w.heap.size 50 9 FC.cells (.slice (some ⟨g', 0, none⟩) (xs.length + 1) cap') (xs ++ [x])) := hO3
        have HW3 : Hid (∀ y ∈ xs ++ [x], y.orow w3 w.heap.size) := fun y hy => by
          rcases List.mem_append.1 hy with h | h
          · exact ((HW2.out y h).later hnd).app (HO2.out.later hnd) hgr
          · rw [List.mem_singleton.1 h]
            exact ((HXO.out.later hnd).app (HO2.out.later hnd) hgr).base (by have := HE.out; omega)
        have HDI : Hid (∀ y ∈ xs ++ [x], DI c.n y.d) := fun y hy => by
          rcases List.mem_append.1 hy with h | h
          · exact HC.out.di y h
          · rw [List.mem_singleton.1 h]; exact hdi
        have HDS : Hid (Dis (xs ++ [x])) := dis_snoc HC.out.dis HC.out.own HXO.out (by have := HE.out; omega)
        have HAH : Hid _ := HA
        have c0 : w2.cell? ⟨b, 0, none⟩ = some sv := (blk_cell hb2 0).trans rfl
        have q0 : w2.cell? ⟨E, 0, none⟩ = some (.string x.d.name) := (blk_cell hbx' 0).trans rfl
        have q1 : w2.cell? ⟨E, 1, none⟩ = some (.int .i64 x.d.line) := (blk_cell hbx' 1).trans rfl
        have q2 : w2.cell? ⟨E, 2, none⟩ = some (.int .i64 x.d.params) := (blk_cell hbx' 2).trans rfl
        have q3 : w2.cell? ⟨E, 3, none⟩ = some (.bool x.d.rest) := (blk_cell hbx' 3).trans rfl
        have q4 : w2.cell? ⟨E, 4, none⟩ = some (.int .i64 x.d.regs) := (blk_cell hbx' 4).trans rfl
        have q5 : w2.cell? ⟨E, 5, none⟩ = some (.slice x.au x.d.ups.length x.cu) := (blk_cell hbx' 5).trans rfl
        have q6 : w2.cell? ⟨E, 6, none⟩ = some (.slice x.ac x.d.consts.length x.cc) := (blk_cell hbx' 6).trans rfl
        have q7 : w2.cell? ⟨E, 7, none⟩ = some (.slice x.ai x.d.ins.length x.ci) := (blk_cell hbx' 7).trans rfl
        have q8 : w2.cell? ⟨E, 8, none⟩ = some (.slice x.an x.d.named.length x.cn) := (blk_cell hbx' 8).trans rfl
        have c0a : (w2.alloc (.cells #[.string x.d.name, .int .i64 x.d.line, .int .i64 x.d.params, .bool x.d.rest, .int .i64 x.d.regs, .slice x.au x.d.ups.length x.cu, .slice x.ac x.d.consts.length x.cc, .slice x.ai x.d.ins.length x.ci, .slice x.an x.d.named.length x.cn] 50)).cell? ⟨b, 0, none⟩ = some sv := cell_later (bw1 _ _) c0
        have z3 := blk_frozen hb3 0
        have y3 : w3.cell? ⟨b, 0, none⟩ = some sv := (blk_cell hb3 0).trans rfl
        have HQ3 : Hid (∀ y r0, FOk y → c.bs.drop p2 = protoL y ++ r0 → x.d = y ∧ c.bs.drop p3 = r0) := hq3
        have HPP : Hid (p + insS (xs ++ [x]) < p3) := by show _ < _; rw [insS_snoc]; have := HPM.out; have h3 : p2 + x.d.ins.length < p3 := hpp3; omega
        have hxl : xs.length = m := HL.out
        obtain ⟨a0, q00, hsv⟩ := HO2.out.val
        rw [hxl] at hsv
        subst hsv
        clear HA hO3 hgr hb2 hb3 hnw hnd hk2 hbx' hq3 hr3 HKY HBY HP hxl HW2 HXO hdi HC hpp3
        go_wp2_with fail
        go_region_law (refine step_append_run rfl _ _ _ rfl _ _ _ _ rfl rfl HAH.out ?_)
        all_goals
          go_wp2_with fail
          go_roundw
          case rel =>
            refine ⟨m + 1, p3, xs ++ [x], .slice (some ⟨g', 0, none⟩) (xs.length + 1) cap', by omega, by go_num, HPP, ?_, HR3.out.put2 hlb _ _, HK3.out.set_b _ _, ⟨blk_set HB3.out 0 _, HO3.out.put HB3.out (by decide) _ _, fun y hy => (HW3.out y hy).put HB3.out (by decide) (by decide) (by decide) (by decide) _ _, HDI.out, HDS.out, ?_⟩, ?_⟩
            · show (xs ++ [x]).length = m + 1
              rw [List.length_append, HL.out]; rfl
            · rw [List.length_append, HL.out]; show m + 1 ≤ _; omega
            · intro ys r0 hy hd
              obtain ⟨g1, g2, g3⟩ := HQ.out ys r0 hy hd
              obtain ⟨y, hyy⟩ : ∃ y, ys[m]? = some y := ⟨ys[m]'(by omega), by simp⟩
              rw [flatMap_drop _ hyy, List.append_assoc] at g3
              obtain ⟨g4, g5⟩ := HQ3.out y _ (hy y (List.mem_of_getElem? hyy)) g3
              exact ⟨g1, by rw [List.take_add_one, hyy, List.map_append, g2]; simp [g4], g5⟩
          case measure => simp [intOf]; omega
      · refine ⟨rfl, HKY.out.into hk2 (by have := HE.out; omega), .inr ⟨rfl, fun ys r0 hy hd => ?_⟩⟩
        obtain ⟨g1, g2, g3⟩ := HQ.out ys r0 hy hd
        obtain ⟨y, hyy⟩ : ∃ y, ys[m]? = some y := ⟨ys[m]'(by omega), by simp⟩
        rw [flatMap_drop _ hyy, List.append_assoc] at g3
        exact hx y _ (hy y (List.mem_of_getElem? hyy)) g3
    · have hmn : m = kk := by omega
      go_wp2_with fail
      go_end0
      refine ⟨HK.out, .inl ⟨xs, sv, p2, rfl, HPM.out, HR.out, HC.out, fun ys r0 hy hd => ?_⟩⟩
      obtain ⟨g1, g2, g3⟩ := HQ.out ys r0 hy hd
      rw [fdrop_end (by omega), List.nil_append] at g3
      exact ⟨by rw [g2, List.take_of_length_le (by omega)], g3⟩
end Go.Proofs.YtfkeklndcjkgcaaGreatDoor
