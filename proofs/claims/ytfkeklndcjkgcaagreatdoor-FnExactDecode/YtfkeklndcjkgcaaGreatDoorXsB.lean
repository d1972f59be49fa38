import Derived.Test.YtfkeklndcjkgcaaGreatDoorXsA
/-
  OWN WORK. The program's tape that is read: ups, steps, names, heads of protos.
-/
namespace Go.Proofs.YtfkeklndcjkgcaaGreatDoor
open Go.RowKit
attribute [local go_sem] run_store_float
set_option linter.unusedVariables false
set_option linter.unusedSimpArgs false

abbrev WhG (c : Cx) (p b : Nat) (os : List Nat) (arr : Array Value) (T : TypeId) (w : World) : Ending → World → Prop :=
  Got c p b (fun W (zs : List Int) => zs.length = os.length ∧ (∀ z ∈ zs, I64 z) ∧ W.heap[b]? = some (.cells (setA arr os zs) T)) (fun xs => xs.length = os.length ∧ ∀ x ∈ xs, I64 x) (fun xs => xs.flatMap numL) w
/-- Wholes whose pointers lie in a new block. -/
theorem rw_new (c : Cx) (p b : Nat) (os : List Nat) (arr : Array Value) (T : TypeId) (n : Nat) (hn : n = os.length) (h0 : 0 < n) (h100 : n ≤ 100) (w : World) (h : Rt c w p) (hb : w.heap[b]? = some (.cells arr T)) (hlb : c.B ≤ b) (hi : ∀ o ∈ os, ∃ z, arr[o]? = some (.int .i64 z)) :
    Calls Tryz.prog 110 #[.pointer (some ⟨c.t, 0, none⟩), .slice (some ⟨w.heap.size, 0, none⟩) n n] (w.alloc (.cells (os.map fun o => Value.pointer (some ⟨b, o, none⟩)).toArray 159)) (WhG c p b os arr T w) := by
  have hy := bw1 w (.cells (os.map fun o => Value.pointer (some ⟨b, o, none⟩)).toArray 159)
  have hlt := blk_lt hb
  refine (rw_any c p b w.heap.size n os arr T 159 n _ (h.later hy) (blk_old hb _) hlb (blk_new _ _) (by omega) (by have := h.lt; have := h.hB; omega) hi hn h0 h100).mono ?_
  rintro e w' ⟨hk, hr⟩
  exact ⟨(Bs.of_below hy).trans hk, hr⟩
theorem rw_drew (c : Cx) (p b : Nat) (os : List Nat) (arr : Array Value) (T : TypeId) (n : Nat) (hn : n = os.length) (h0 : 0 < n) (h100 : n ≤ 100) (w : World) (h : Rt c w p) (hb : w.heap[b]? = some (.cells arr T)) (hlb : c.B ≤ b) (hi : ∀ o ∈ os, ∃ z, arr[o]? = some (.int .i64 z)) :
    Calls Tryz.prog 110 #[.pointer (some ⟨c.t, 0, none⟩), .slice (some ⟨w.heap.size, 0, none⟩) n n] (w.alloc (.cells (os.map fun o => Value.pointer (some ⟨b, o, none⟩)).toArray 159)).drew (WhG c p b os arr T w) := by
  have hy := (bw1 w (.cells (os.map fun o => Value.pointer (some ⟨b, o, none⟩)).toArray 159)).drew
  have hlt := blk_lt hb
  refine (rw_any c p b w.heap.size n os arr T 159 n _ (h.later hy) (blk_old hb _) hlb (blk_new _ _) (by omega) (by have := h.lt; have := h.hB; omega) hi hn h0 h100).mono ?_
  rintro e w' ⟨hk, hr⟩
  exact ⟨(Bs.of_below hy).trans hk, hr⟩
theorem len1 {zs : List Int} (h : zs.length = 1) : ∃ z, zs = [z] := by
  match zs, h with
  | [z], _ => exact ⟨z, rfl⟩
theorem len2 {zs : List Int} (h : zs.length = 2) : ∃ z y, zs = [z, y] := by
  match zs, h with
  | [z, y], _ => exact ⟨z, y, rfl⟩
theorem len3 {zs : List Int} (h : zs.length = 3) : ∃ z y x, zs = [z, y, x] := by
  match zs, h with
  | [z, y, x], _ => exact ⟨z, y, x, rfl⟩
theorem len5 {zs : List Int} (h : zs.length = 5) : ∃ z y x u v, zs = [z, y, x, u, v] := by
  match zs, h with
  | [z, y, x, u, v], _ => exact ⟨z, y, x, u, v, rfl⟩

abbrev UpG (c : Cx) (p b : Nat) (w : World) : Ending → World → Prop := Got c p b (fun W (u : UD) => I64 u.i ∧ W.heap[b]? = some (.cells (UD.cells u).toArray 110)) (fun u => I64 u.i) upL w
set_option maxRecDepth 20000 in
set_option maxHeartbeats 4000000 in
theorem rup_any (c : Cx) (p b : Nat) (w : World) (h : Rt c w p) (hb : w.heap[b]? = some (.cells #[.bool false, .int .i64 0] 110)) (hlb : c.B ≤ b) :
    Calls Tryz.prog 113 #[.pointer (some ⟨c.t, 0, none⟩), .pointer (some ⟨b, 0, none⟩)] w (UpG c p b w) := by
  have HF : Hid _ := rf_any c p b 0 false _ _ w h hb rfl hlb
  clear h hb
  go_enter Tryz.func113, Tryz.ntmps113
  go_wp2_with fail
  refine Calls.mono HF.out ?_
  rintro e w1 ⟨hk, ⟨x, p1, rfl, hpp, hr, hbx, hq⟩ | ⟨rfl, hx⟩⟩
  · have hb1 : w1.heap[b]? = some (.cells #[.bool x, .int .i64 0] 110) := hbx
    have HW : Hid _ := rw_new c p1 b [1] #[.bool x, .int .i64 0] 110 1 rfl (by omega) (by omega) w1 hr hb1 hlb (fun o ho => by
      obtain rfl : o = 1 := by simpa using ho
      exact ⟨0, rfl⟩)
    clear hr hb1 hbx HF
    go_wp2_with fail
    refine Calls.mono HW.out ?_
    rintro e w2 ⟨hk2, ⟨zs, p2, rfl, hpp2, hr2, ⟨hzl, hzi, hbz⟩, hq2⟩ | ⟨rfl, hx⟩⟩
    · obtain ⟨z, rfl⟩ := len1 hzl
      go_wp2_with fail
      go_end0
      refine ⟨hk.trans hk2, .inl ⟨⟨x, z⟩, p2, rfl, by omega, hr2, ⟨hzi z (by simp), hbz⟩, fun y r0 hy hd => ?_⟩⟩
      unfold upL at hd
      rw [List.append_assoc] at hd
      obtain ⟨g1, g2⟩ := hq y.l _ trivial hd
      obtain ⟨g3, g4⟩ := hq2 [y.i] r0 ⟨rfl, by simpa using hy⟩ (by simpa using g2)
      cases g1
      cases g3
      exact ⟨rfl, g4⟩
    · refine ⟨rfl, hk.trans hk2, .inr ⟨rfl, fun y r0 hy hd => ?_⟩⟩
      unfold upL at hd
      rw [List.append_assoc] at hd
      obtain ⟨g1, g2⟩ := hq y.l _ trivial hd
      exact hx [y.i] r0 ⟨rfl, by simpa using hy⟩ (by simpa using g2)
  · refine ⟨rfl, hk, .inr ⟨rfl, fun y r0 hy hd => ?_⟩⟩
    unfold upL at hd
    rw [List.append_assoc] at hd
    exact hx y.l _ trivial hd

abbrev StG (c : Cx) (p b : Nat) (w : World) : Ending → World → Prop := Got c p b (fun W (y : ID) => (I64 y.op ∧ I64 y.a ∧ I64 y.b ∧ I64 y.c ∧ I64 y.d) ∧ W.heap[b]? = some (.cells (ID.cells y).toArray 52)) (fun y => I64 y.op ∧ I64 y.a ∧ I64 y.b ∧ I64 y.c ∧ I64 y.d) stepL w
theorem step_flat (y : ID) : stepL y = [y.op, y.a, y.b, y.c, y.d].flatMap numL := by simp [stepL]
set_option maxRecDepth 20000 in
set_option maxHeartbeats 4000000 in
theorem rst_any (c : Cx) (p b : Nat) (w : World) (h : Rt c w p) (hb : w.heap[b]? = some (.cells #[.int .i64 0, .int .i64 0, .int .i64 0, .int .i64 0, .int .i64 0] 52)) (hlb : c.B ≤ b) :
    Calls Tryz.prog 117 #[.pointer (some ⟨c.t, 0, none⟩), .pointer (some ⟨b, 0, none⟩)] w (StG c p b w) := by
  have HW : Hid _ := rw_drew c p b [0, 1, 2, 3, 4] _ 52 5 rfl (by omega) (by omega) w h hb hlb (fun o ho => by
    simp only [List.mem_cons, List.not_mem_nil, or_false] at ho
    rcases ho with rfl | rfl | rfl | rfl | rfl <;> exact ⟨0, rfl⟩)
  clear h hb
  go_enter Tryz.func117, Tryz.ntmps117
  go_wp2_with fail
  go_region_with (go_at_call 110; refine Calls.mono HW.out ?_; rintro e w2 ⟨hk2, ⟨zs, p2, rfl, hpp2, hr2, ⟨hzl, hzi, hbz⟩, hq2⟩ | ⟨rfl, hx⟩⟩; rotate_left; exact ⟨rfl, hk2, .inr ⟨rfl, fun y r0 hy hd => hx [y.op, y.a, y.b, y.c, y.d] r0 ⟨rfl, by simpa using hy⟩ (by have h := hd; rw [step_flat y] at h; exact h)⟩⟩)
  obtain ⟨z0, z1, z2, z3, z4, rfl⟩ := len5 hzl
  go_wp2_with fail
  go_end0
  refine ⟨hk2, .inl ⟨⟨z0, z1, z2, z3, z4⟩, p2, rfl, by omega, hr2, ⟨by simpa using hzi, hbz⟩, fun y r0 hy hd => ?_⟩⟩
  obtain ⟨g3, g4⟩ := hq2 [y.op, y.a, y.b, y.c, y.d] r0 ⟨rfl, by simpa using hy⟩ (by have h := hd; rw [step_flat y] at h; exact h)
  cases g3
  exact ⟨rfl, g4⟩

abbrev NaG (c : Cx) (p b : Nat) (w : World) : Ending → World → Prop := Got c p b (fun W (y : ND) => (y.s.size ≤ c.n ∧ I64 y.reg ∧ I64 y.fr ∧ I64 y.to) ∧ W.heap[b]? = some (.cells (ND.cells y).toArray 116)) (fun y => I64 y.reg ∧ I64 y.fr ∧ I64 y.to) namedL w
set_option maxRecDepth 20000 in
set_option maxHeartbeats 4000000 in
theorem rna_any (c : Cx) (p b : Nat) (w : World) (h : Rt c w p) (hb : w.heap[b]? = some (.cells #[.string ⟨#[]⟩, .int .i64 0, .int .i64 0, .int .i64 0] 116)) (hlb : c.B ≤ b) :
    Calls Tryz.prog 119 #[.pointer (some ⟨c.t, 0, none⟩), .pointer (some ⟨b, 0, none⟩)] w (NaG c p b w) := by
  have HF : Hid _ := rx_any c p b 0 ⟨#[]⟩ _ _ w h hb rfl (by decide) hlb
  clear h hb
  go_enter Tryz.func119, Tryz.ntmps119
  go_wp2_with fail
  refine Calls.mono HF.out ?_
  rintro e w1 ⟨hk, ⟨x, p1, rfl, hpp, hr, ⟨hxs, hbx⟩, hq⟩ | ⟨rfl, hx⟩⟩
  · have hb1 : w1.heap[b]? = some (.cells #[.string x, .int .i64 0, .int .i64 0, .int .i64 0] 116) := hbx
    have HW : Hid _ := rw_drew c p1 b [1, 2, 3] _ 116 3 rfl (by omega) (by omega) w1 hr hb1 hlb (fun o ho => by
      simp only [List.mem_cons, List.not_mem_nil, or_false] at ho
      rcases ho with rfl | rfl | rfl <;> exact ⟨0, rfl⟩)
    have HQ : Hid (∀ y r0, True → c.bs.drop p = textL y ++ r0 → x = y ∧ c.bs.drop p1 = r0) := hq
    clear hr hb1 hbx HF hq
    go_wp2_with fail
    go_region_with (go_at_call 110; refine Calls.mono HW.out ?_; rintro e w2 ⟨hk2, ⟨zs, p2, rfl, hpp2, hr2, ⟨hzl, hzi, hbz⟩, hq2⟩ | ⟨rfl, hx⟩⟩; rotate_left; exact ⟨rfl, hk.trans hk2, .inr ⟨rfl, fun y r0 hy hd => by
        unfold namedL at hd
        rw [List.append_assoc] at hd
        obtain ⟨g1, g2⟩ := HQ.out y.s _ trivial hd
        exact hx [y.reg, y.fr, y.to] r0 ⟨rfl, by simpa using hy⟩ (by simpa using g2)⟩⟩)
    obtain ⟨z0, z1, z2, rfl⟩ := len3 hzl
    go_wp2_with fail
    go_end0
    refine ⟨hk.trans hk2, .inl ⟨⟨x, z0, z1, z2⟩, p2, rfl, by omega, hr2, ⟨⟨hxs, by simpa using hzi⟩, hbz⟩, fun y r0 hy hd => ?_⟩⟩
    unfold namedL at hd
    rw [List.append_assoc] at hd
    obtain ⟨g1, g2⟩ := HQ.out y.s _ trivial hd
    obtain ⟨g3, g4⟩ := hq2 [y.reg, y.fr, y.to] r0 ⟨rfl, by simpa using hy⟩ (by simpa using g2)
    cases g1
    cases g3
    exact ⟨rfl, g4⟩
  · refine ⟨rfl, hk, .inr ⟨rfl, fun y r0 hy hd => ?_⟩⟩
    unfold namedL at hd
    rw [List.append_assoc] at hd
    exact hx y.s _ trivial hd
end Go.Proofs.YtfkeklndcjkgcaaGreatDoor

/-
  OWN WORK. The program's tape that is read: consts.
-/
namespace Go.Proofs.YtfkeklndcjkgcaaGreatDoor
open Go.RowKit
attribute [local go_sem] run_store_float
set_option linter.unusedVariables false
set_option linter.unusedSimpArgs false

theorem run_from (x : Nat) (w : World) : (callFunc 123 #[.int .u64 (x : Int)]).run Tryz.prog w = .ok (.value (.float .f64 x)) w := by
  rw [run_callFunc_extern (e := Extern.MathFloatBits.float64frombits) Tryz.func123 (by kernel_rfl) (by kernel_rfl) (by kernel_rfl) (by kernel_rfl)]
  rfl

/-- Eight bytes, the highest first, or the tape ends. -/
def FltR (c : Cx) (p b : Nat) (arr : Array Value) (T : TypeId) (w : World) (e : Ending) (w' : World) : Prop := Got c p b (fun W (f : Nat) => f < 18446744073709551616 ∧ W.heap[b]? = some (.cells (arr.setIfInBounds 2 (.float .f64 f)) T)) (fun f => f < 18446744073709551616) bitsL w e w'

set_option maxRecDepth 20000 in
set_option maxHeartbeats 8000000 in
theorem rfl_any (c : Cx) (p b : Nat) (f0 : Nat) (arr : Array Value) (T : TypeId) (w : World) (h : Rt c w p) (hb : w.heap[b]? = some (.cells arr T)) (ho : arr[2]? = some (.float .f64 f0)) (hf0 : f0 < 18446744073709551616) (hlb : c.B ≤ b) :
    Calls Tryz.prog 65 #[.pointer (some ⟨c.t, 0, none⟩), .pointer (some ⟨b, 0, none⟩)] w (FltR c p b arr T w) := by
  have H : Hid (Rt c w p) := h
  have HB : Hid (w.heap[b]? = some (.cells arr T)) := hb
  have hbt : b ≠ c.t := by have := h.lt; omega
  have e0 : w.cell? ⟨b, 2, none⟩ = some (.float .f64 f0) := (blk_cell hb 2).trans ho
  have hos : 2 < arr.size := (Array.getElem?_eq_some_iff.1 ho).1
  have hrb := run_bits f0
  clear h hb ho
  go_enter Tryz.func65, Tryz.ntmps65
  go_wp2_with fail
  go_loopw [4, 5, 11] (fun gv fo i wr => ∃ (m v x : Nat), m ≤ 8 ∧ i = .int .i64 m ∧ gv = .int .u64 (v : Int) ∧ fo = .int .u64 (x : Int) ∧ v < 18446744073709551616 ∧ x < 18446744073709551616 ∧ Hid (Rt c wr (p + m)) ∧ Hid (Bs c.t c.t w wr) ∧ Hid (∀ f r0, f < 18446744073709551616 → c.bs.drop p = bitsL f ++ r0 → x = f / 2 ^ (64 - 8 * m) ∧ c.bs.drop (p + m) = (bitsL f).drop m ++ r0)) (fun _ _ i _ => 8 - (intOf i).toNat)
  case atStart => exact ⟨0, f0, 0, by omega, rfl, rfl, rfl, hf0, by omega, H, Bs.refl _ _ _, fun f r0 hf hd => ⟨by rw [Nat.mul_zero, Nat.sub_zero, Nat.div_eq_of_lt (by simpa using hf)], hd⟩⟩
  case round =>
    clear H e0 hrb
    obtain ⟨m, v, x, hm, rfl, rfl, rfl, hv, hx, H, HK, HQ⟩ := hrel
    by_cases k1 : m < 8
    · go_wp2_with fail
      refine (ro_any c (p + m) _ wr H.out).mono ?_
      rintro e w2 ⟨hk, ⟨u, hu, rfl, hr⟩ | ⟨rfl, hx2⟩⟩
      · obtain ⟨cc, hcc⟩ : ∃ cc, cc = u.toNat := ⟨_, rfl⟩
        have hc256 : cc < 256 := by rw [hcc]; exact u.toNat_lt
        have e1 := oct_bits x cc hc256
        obtain ⟨X, hX⟩ : ∃ X, X = x * 256 % 18446744073709551616 + cc := ⟨_, rfl⟩
        have hX2 : X < 18446744073709551616 := by rw [hX]; omega
        have HX : Hid (X = x * 256 % 18446744073709551616 + cc) := hX
        rw [← hX] at e1
        have HU : Hid (c.bs[p + m]? = some u) := hu
        have HC : Hid (cc = u.toNat) := hcc
        have HR2 : Hid (Rt c w2 (p + m + 1)) := hr
        have HK2 : Hid (Bs c.t c.t w w2) := HK.out.trans hk
        rw [← hcc]
        clear hr hk H HK hu hcc hX
        go_wp2_with fail
        go_roundw
        case rel =>
          refine ⟨m + 1, v * 256 % U64, X, by omega, by go_num, by rw [wrap_256], rfl, by have := Nat.mod_lt (v * 256) (show 0 < U64 by decide); rw [U64_eq] at this ⊢; exact this, hX2, HR2, HK2, fun f r0 hf hd => ?_⟩
          obtain ⟨g1, g2⟩ := HQ.out f r0 hf hd
          rw [bitsL_drop k1] at g2
          obtain ⟨g3, g4⟩ := drop_head (show c.bs.drop (p + m) = byteI f m :: ((bitsL f).drop (m + 1) ++ r0) from g2)
          have hu := HU.out
          rw [hu] at g3
          cases g3
          refine ⟨?_, g4⟩
          rw [HX.out, HC.out, g1]
          exact oct_step hf k1
        case measure => simp [intOf]; omega
      · refine ⟨rfl, (HK.out.trans hk).to, .inr ⟨rfl, fun f r0 hf hd => ?_⟩⟩
        obtain ⟨g1, g2⟩ := HQ.out f r0 hf hd
        rw [bitsL_drop k1] at g2
        obtain ⟨g3, g4⟩ := drop_head (show c.bs.drop (p + m) = byteI f m :: ((bitsL f).drop (m + 1) ++ r0) from g2)
        have := (List.getElem?_eq_some_iff.1 g3).1
        omega
    · obtain rfl : m = 8 := by omega
      have t1 := H.out.c1
      have hb1 : wr.heap[b]? = some (.cells arr T) := Bs.blkn (b := b) HK.out HB.out hbt
      obtain ⟨y0, e1⟩ : ∃ y, wr.cell? ⟨b, 2, none⟩ = some y := ⟨arr[2]'hos, by rw [blk_cell hb1]; simp⟩
      have z := blk_frozen hb1 2
      have HB1 : Hid (wr.heap[b]? = some (.cells arr T)) := hb1
      have hrf := run_from x
      clear hb1
      go_wp2_with fail
      go_end0
      refine ⟨HK.out.to.set_b _ _, .inl ⟨x, p + 8, rfl, by omega, H.out.put hlb _ _, ⟨hx, blk_set HB1.out 2 _⟩, fun f r0 hf hd => ?_⟩⟩
      obtain ⟨g1, g2⟩ := HQ.out f r0 hf hd
      exact ⟨by rw [g1]; simp, by rw [g2]; simp [bitsL]⟩
end Go.Proofs.YtfkeklndcjkgcaaGreatDoor

/-
  OWN WORK. The program's tape that is read: consts by their kinds, heads of protos.
-/
namespace Go.Proofs.YtfkeklndcjkgcaaGreatDoor
open Go.RowKit
attribute [local go_sem] run_store_float
set_option linter.unusedVariables false
set_option linter.unusedSimpArgs false

set_option maxRecDepth 20000 in
set_option maxHeartbeats 4000000 in
theorem rnum_part (c : Cx) (p b : Nat) (arr : Array Value) (T : TypeId) (w : World) (h : Rt c w p) (hb : w.heap[b]? = some (.cells arr T)) (ho : 1 < arr.size) (hlb : c.B ≤ b) :
    Calls Tryz.prog 64 #[.pointer (some ⟨c.t, 0, none⟩), .pointer (some ⟨b, 0, none⟩)] w (Got c p b (fun W z => I64 z ∧ W.heap[b]? = some (.cells (arr.setIfInBounds 1 (.int .i64 z)) T)) I64 numL w) := by
  have HN : Hid _ := rn_any c p b 1 arr T w h hb ho hlb
  clear h hb
  go_enter Tryz.func64, Tryz.ntmps64
  go_wp2_with fail
  refine Calls.mono HN.out ?_
  rintro e w1 ⟨hk, ⟨x, p1, rfl, hr⟩ | ⟨rfl, hx⟩⟩
  · go_wp2_with fail
    go_end0
    exact ⟨hk, .inl ⟨x, p1, rfl, hr⟩⟩
  · exact ⟨rfl, hk, .inr ⟨rfl, hx⟩⟩

set_option maxRecDepth 20000 in
set_option maxHeartbeats 4000000 in
theorem rstr_part (c : Cx) (p b : Nat) (s0 : ByteArray) (arr : Array Value) (T : TypeId) (w : World) (h : Rt c w p) (hb : w.heap[b]? = some (.cells arr T)) (ho : arr[3]? = some (.string s0)) (hs : s0.size ≤ 1000000000) (hlb : c.B ≤ b) :
    Calls Tryz.prog 66 #[.pointer (some ⟨c.t, 0, none⟩), .pointer (some ⟨b, 0, none⟩)] w (Got c p b (fun W s => s.size ≤ c.n ∧ W.heap[b]? = some (.cells (arr.setIfInBounds 3 (.string s)) T)) (fun _ => True) textL w) := by
  have HN : Hid _ := rx_any c p b 3 s0 arr T w h hb ho hs hlb
  clear h hb
  go_enter Tryz.func66, Tryz.ntmps66
  go_wp2_with fail
  refine Calls.mono HN.out ?_
  rintro e w1 ⟨hk, ⟨x, p1, rfl, hr⟩ | ⟨rfl, hx⟩⟩
  · go_wp2_with fail
    go_end0
    exact ⟨hk, .inl ⟨x, p1, rfl, hr⟩⟩
  · exact ⟨rfl, hk, .inr ⟨rfl, hx⟩⟩

abbrev VaG (c : Cx) (p b : Nat) (w : World) : Ending → World → Prop := Got c p b (fun W (v : VD) => (I64 v.n ∧ v.f < 18446744073709551616 ∧ v.s.size ≤ c.n) ∧ W.heap[b]? = some (.cells (VD.cells v).toArray 113)) COk constL w
abbrev vz (k : Nat) : Array Value := #[.int .i64 (k : Int), .int .i64 0, .float .f64 0, .string ⟨#[]⟩, .int .i64 0]
theorem i64_zero : I64 0 := ⟨by omega, by omega⟩
theorem COk.at {v : VD} (h : COk v) {bs r0 : List UInt8} {p : Nat} {u : UInt8} (hd : bs.drop p = constL v ++ r0) (hu : bs[p]? = some u) : v.k = (u.toNat : Int) ∧ bs.drop (p + 1) = (if v.k = 1 ∨ v.k = 2 ∨ v.k = 8 then numL v.n else if v.k = 4 then textL v.s else if v.k = 3 then bitsL v.f else []) ++ r0 := by
  obtain ⟨h1, _, h2⟩ := h.is (bd := true) (bd1 := true) (c := u.toNat) (p1 := p + 1) hd (fun u' hu' => by rw [hu] at hu'; cases hu'; exact ⟨rfl, rfl, rfl⟩)
  exact ⟨h1, h2⟩

set_option maxRecDepth 20000 in
set_option maxHeartbeats 8000000 in
theorem rva_num (c : Cx) (p b k i : Nat) (u : UInt8) (w : World) (h : Rt c w p) (hb : w.heap[b]? = some (.cells (vz 0) 113)) (hlb : c.B ≤ b) (hu : c.bs[p]? = some u) (hku : u.toNat = k) (hk : k = 1 ∨ k = 2 ∨ k = 8) (hf : Instr.findNow (.int .i64) (.int .i64 (k : Int)) (KES c.t).toList 0 = some (some (i, MV 64 c.t))) :
    Calls Tryz.prog 115 #[.pointer (some ⟨c.t, 0, none⟩), .pointer (some ⟨b, 0, none⟩)] w (VaG c p b w) := by
  have H : Hid (Rt c w p) := h
  have HB : Hid (w.heap[b]? = some (.cells (vz 0) 113)) := hb
  have hbt : b ≠ c.t := by have := h.lt; omega
  have e0 : w.cell? ⟨b, 0, none⟩ = some (.int .i64 0) := (blk_cell hb 0).trans rfl
  have HU : Hid (c.bs[p]? = some u) := hu
  have HKU : Hid (u.toNat = k) := hku
  have HKC : Hid (k = 1 ∨ k = 2 ∨ k = 8) := hk
  clear h hb hu hk
  go_enter Tryz.func115, Tryz.ntmps115
  go_wp2_with fail
  refine (ro_any c p 0 w H.out).mono ?_
  rintro e w1 ⟨hk, ⟨u', hu', rfl, hr⟩ | ⟨rfl, hx⟩⟩
  · obtain rfl : u' = u := by have h := HU.out; rw [hu'] at h; exact Option.some.inj h
    rw [HKU.out]
    have hb1 : w1.heap[b]? = some (.cells (vz 0) 113) := Bs.blkn (b := b) hk HB.out hbt
    have t1 := hr.c1
    have t4 := hr.c4
    have y0 : w1.cell? ⟨b, 0, none⟩ = some (.int .i64 0) := (blk_cell hb1 0).trans rfl
    have z := blk_frozen hb1 0
    have hm2 : (w1.setCell ⟨b, 0, none⟩ (.int .i64 (k : Int))).heap[c.gm]? = some (.map (KES c.t) 5) := blk_other hr.pa.m (by have := hr.lm; omega) _ _
    have hlk := lookup_kind c.t c.gm (k : Int) (MV 64 c.t) i 5 _ hm2 hf
    have HP : Hid _ := rnum_part c (p + 1) b (vz k) 113 (w1.setCell ⟨b, 0, none⟩ (.int .i64 (k : Int))) (hr.put hlb _ _) (blk_set hb1 0 _) (by simp) hlb
    have HK1 : Hid (Bs c.t b w (w1.setCell ⟨b, 0, none⟩ (.int .i64 (k : Int)))) := hk.to.set_b _ _
    have hk255 : (k : Int) ≤ 255 := by have := u'.toNat_lt; omega
    clear hr hb1 hm2 hf H HB hku
    go_wp2_with fail
    refine Calls.mono HP.out ?_
    rintro e w3 ⟨hk3, ⟨x, p3, rfl, hpp, hr3, ⟨hx1, hx2⟩, hq⟩ | ⟨rfl, hx⟩⟩
    · go_wp2_with fail
      go_end0
      refine ⟨HK1.out.trans hk3, .inl ⟨⟨k, x, 0, ⟨#[]⟩, 0⟩, p3, rfl, by omega, hr3, ⟨⟨hx1, (by show 0 < 18446744073709551616; omega), by simp [ByteArray.size]⟩, hx2⟩, fun y r0 hy hd => ?_⟩⟩
      obtain ⟨g1, g2⟩ := hy.at hd hu'
      rw [HKU.out] at g1
      rw [if_pos (by have := HKC.out; rw [g1]; omega)] at g2
      obtain ⟨g3, g4⟩ := hq y.n r0 hy.n g2
      exact ⟨VD.same g1.symm g3 (hy.f0 (by have := HKC.out; rw [g1]; omega)).symm (hy.s0 (by have := HKC.out; rw [g1]; omega)).symm hy.r.symm, g4⟩
    · refine ⟨rfl, HK1.out.trans hk3, .inr ⟨rfl, fun y r0 hy hd => ?_⟩⟩
      obtain ⟨g1, g2⟩ := hy.at hd hu'
      rw [HKU.out] at g1
      rw [if_pos (by have := HKC.out; rw [g1]; omega)] at g2
      exact hx y.n r0 hy.n g2
  · refine ⟨rfl, hk.to, .inr ⟨rfl, fun y r0 hy hd => ?_⟩⟩
    have := (List.getElem?_eq_some_iff.1 HU.out).1
    omega

set_option maxRecDepth 20000 in
set_option maxHeartbeats 8000000 in
theorem rva_str (c : Cx) (p b k i : Nat) (u : UInt8) (w : World) (h : Rt c w p) (hb : w.heap[b]? = some (.cells (vz 0) 113)) (hlb : c.B ≤ b) (hu : c.bs[p]? = some u) (hku : u.toNat = k) (hk : k = 4) (hf : Instr.findNow (.int .i64) (.int .i64 (k : Int)) (KES c.t).toList 0 = some (some (i, MV 66 c.t))) :
    Calls Tryz.prog 115 #[.pointer (some ⟨c.t, 0, none⟩), .pointer (some ⟨b, 0, none⟩)] w (VaG c p b w) := by
  have H : Hid (Rt c w p) := h
  have HB : Hid (w.heap[b]? = some (.cells (vz 0) 113)) := hb
  have hbt : b ≠ c.t := by have := h.lt; omega
  have e0 : w.cell? ⟨b, 0, none⟩ = some (.int .i64 0) := (blk_cell hb 0).trans rfl
  have HU : Hid (c.bs[p]? = some u) := hu
  have HKU : Hid (u.toNat = k) := hku
  have HKC : Hid (k = 4) := hk
  clear h hb hu hk
  go_enter Tryz.func115, Tryz.ntmps115
  go_wp2_with fail
  refine (ro_any c p 0 w H.out).mono ?_
  rintro e w1 ⟨hk, ⟨u', hu', rfl, hr⟩ | ⟨rfl, hx⟩⟩
  · obtain rfl : u' = u := by have h := HU.out; rw [hu'] at h; exact Option.some.inj h
    rw [HKU.out]
    have hb1 : w1.heap[b]? = some (.cells (vz 0) 113) := Bs.blkn (b := b) hk HB.out hbt
    have t1 := hr.c1
    have t4 := hr.c4
    have y0 : w1.cell? ⟨b, 0, none⟩ = some (.int .i64 0) := (blk_cell hb1 0).trans rfl
    have z := blk_frozen hb1 0
    have hm2 : (w1.setCell ⟨b, 0, none⟩ (.int .i64 (k : Int))).heap[c.gm]? = some (.map (KES c.t) 5) := blk_other hr.pa.m (by have := hr.lm; omega) _ _
    have hlk := lookup_kind c.t c.gm (k : Int) (MV 66 c.t) i 5 _ hm2 hf
    have HP : Hid _ := rstr_part c (p + 1) b ⟨#[]⟩ (vz k) 113 (w1.setCell ⟨b, 0, none⟩ (.int .i64 (k : Int))) (hr.put hlb _ _) (blk_set hb1 0 _) rfl (by decide) hlb
    have HK1 : Hid (Bs c.t b w (w1.setCell ⟨b, 0, none⟩ (.int .i64 (k : Int)))) := hk.to.set_b _ _
    have hk255 : (k : Int) ≤ 255 := by have := u'.toNat_lt; omega
    clear hr hb1 hm2 hf H HB hku
    go_wp2_with fail
    refine Calls.mono HP.out ?_
    rintro e w3 ⟨hk3, ⟨x, p3, rfl, hpp, hr3, ⟨hx1, hx2⟩, hq⟩ | ⟨rfl, hx⟩⟩
    · go_wp2_with fail
      go_end0
      refine ⟨HK1.out.trans hk3, .inl ⟨⟨k, 0, 0, x, 0⟩, p3, rfl, by omega, hr3, ⟨⟨i64_zero, (by show 0 < 18446744073709551616; omega), hx1⟩, hx2⟩, fun y r0 hy hd => ?_⟩⟩
      obtain ⟨g1, g2⟩ := hy.at hd hu'
      rw [HKU.out] at g1
      rw [if_neg (by have := HKC.out; rw [g1]; omega), if_pos (by have := HKC.out; rw [g1]; omega)] at g2
      obtain ⟨g3, g4⟩ := hq y.s r0 trivial g2
      exact ⟨VD.same g1.symm (hy.n0 (by have := HKC.out; rw [g1]; omega)).symm (hy.f0 (by have := HKC.out; rw [g1]; omega)).symm g3 hy.r.symm, g4⟩
    · refine ⟨rfl, HK1.out.trans hk3, .inr ⟨rfl, fun y r0 hy hd => ?_⟩⟩
      obtain ⟨g1, g2⟩ := hy.at hd hu'
      rw [HKU.out] at g1
      rw [if_neg (by have := HKC.out; rw [g1]; omega), if_pos (by have := HKC.out; rw [g1]; omega)] at g2
      exact hx y.s r0 trivial g2
  · refine ⟨rfl, hk.to, .inr ⟨rfl, fun y r0 hy hd => ?_⟩⟩
    have := (List.getElem?_eq_some_iff.1 HU.out).1
    omega

set_option maxRecDepth 20000 in
set_option maxHeartbeats 8000000 in
theorem rva_flt (c : Cx) (p b k i : Nat) (u : UInt8) (w : World) (h : Rt c w p) (hb : w.heap[b]? = some (.cells (vz 0) 113)) (hlb : c.B ≤ b) (hu : c.bs[p]? = some u) (hku : u.toNat = k) (hk : k = 3) (hf : Instr.findNow (.int .i64) (.int .i64 (k : Int)) (KES c.t).toList 0 = some (some (i, MV 65 c.t))) :
    Calls Tryz.prog 115 #[.pointer (some ⟨c.t, 0, none⟩), .pointer (some ⟨b, 0, none⟩)] w (VaG c p b w) := by
  have H : Hid (Rt c w p) := h
  have HB : Hid (w.heap[b]? = some (.cells (vz 0) 113)) := hb
  have hbt : b ≠ c.t := by have := h.lt; omega
  have e0 : w.cell? ⟨b, 0, none⟩ = some (.int .i64 0) := (blk_cell hb 0).trans rfl
  have HU : Hid (c.bs[p]? = some u) := hu
  have HKU : Hid (u.toNat = k) := hku
  have HKC : Hid (k = 3) := hk
  clear h hb hu hk
  go_enter Tryz.func115, Tryz.ntmps115
  go_wp2_with fail
  refine (ro_any c p 0 w H.out).mono ?_
  rintro e w1 ⟨hk, ⟨u', hu', rfl, hr⟩ | ⟨rfl, hx⟩⟩
  · obtain rfl : u' = u := by have h := HU.out; rw [hu'] at h; exact Option.some.inj h
    rw [HKU.out]
    have hb1 : w1.heap[b]? = some (.cells (vz 0) 113) := Bs.blkn (b := b) hk HB.out hbt
    have t1 := hr.c1
    have t4 := hr.c4
    have y0 : w1.cell? ⟨b, 0, none⟩ = some (.int .i64 0) := (blk_cell hb1 0).trans rfl
    have z := blk_frozen hb1 0
    have hm2 : (w1.setCell ⟨b, 0, none⟩ (.int .i64 (k : Int))).heap[c.gm]? = some (.map (KES c.t) 5) := blk_other hr.pa.m (by have := hr.lm; omega) _ _
    have hlk := lookup_kind c.t c.gm (k : Int) (MV 65 c.t) i 5 _ hm2 hf
    have HP : Hid _ := rfl_any c (p + 1) b 0 (vz k) 113 (w1.setCell ⟨b, 0, none⟩ (.int .i64 (k : Int))) (hr.put hlb _ _) (blk_set hb1 0 _) rfl (by decide) hlb
    have HK1 : Hid (Bs c.t b w (w1.setCell ⟨b, 0, none⟩ (.int .i64 (k : Int)))) := hk.to.set_b _ _
    have hk255 : (k : Int) ≤ 255 := by have := u'.toNat_lt; omega
    clear hr hb1 hm2 hf H HB hku
    go_wp2_with fail
    refine Calls.mono HP.out ?_
    rintro e w3 ⟨hk3, ⟨x, p3, rfl, hpp, hr3, ⟨hx1, hx2⟩, hq⟩ | ⟨rfl, hx⟩⟩
    · go_wp2_with fail
      go_end0
      refine ⟨HK1.out.trans hk3, .inl ⟨⟨k, 0, x, ⟨#[]⟩, 0⟩, p3, rfl, by omega, hr3, ⟨⟨i64_zero, hx1, by simp [ByteArray.size]⟩, hx2⟩, fun y r0 hy hd => ?_⟩⟩
      obtain ⟨g1, g2⟩ := hy.at hd hu'
      rw [HKU.out] at g1
      rw [if_neg (by have := HKC.out; rw [g1]; omega), if_neg (by have := HKC.out; rw [g1]; omega), if_pos (by have := HKC.out; rw [g1]; omega)] at g2
      obtain ⟨g3, g4⟩ := hq y.f r0 hy.f g2
      exact ⟨VD.same g1.symm (hy.n0 (by have := HKC.out; rw [g1]; omega)).symm g3 (hy.s0 (by have := HKC.out; rw [g1]; omega)).symm hy.r.symm, g4⟩
    · refine ⟨rfl, HK1.out.trans hk3, .inr ⟨rfl, fun y r0 hy hd => ?_⟩⟩
      obtain ⟨g1, g2⟩ := hy.at hd hu'
      rw [HKU.out] at g1
      rw [if_neg (by have := HKC.out; rw [g1]; omega), if_neg (by have := HKC.out; rw [g1]; omega), if_pos (by have := HKC.out; rw [g1]; omega)] at g2
      exact hx y.f r0 hy.f g2
  · refine ⟨rfl, hk.to, .inr ⟨rfl, fun y r0 hy hd => ?_⟩⟩
    have := (List.getElem?_eq_some_iff.1 HU.out).1
    omega

set_option maxRecDepth 20000 in
set_option maxHeartbeats 8000000 in
theorem rva_none (c : Cx) (p b k : Nat) (u : UInt8) (w : World) (h : Rt c w p) (hb : w.heap[b]? = some (.cells (vz 0) 113)) (hlb : c.B ≤ b) (hu : c.bs[p]? = some u) (hku : u.toNat = k) (hk : k ≠ 1 ∧ k ≠ 2 ∧ k ≠ 3 ∧ k ≠ 4 ∧ k ≠ 8) (hf : Instr.findNow (.int .i64) (.int .i64 (k : Int)) (KES c.t).toList 0 = some none) :
    Calls Tryz.prog 115 #[.pointer (some ⟨c.t, 0, none⟩), .pointer (some ⟨b, 0, none⟩)] w (VaG c p b w) := by
  have H : Hid (Rt c w p) := h
  have HB : Hid (w.heap[b]? = some (.cells (vz 0) 113)) := hb
  have hbt : b ≠ c.t := by have := h.lt; omega
  have e0 : w.cell? ⟨b, 0, none⟩ = some (.int .i64 0) := (blk_cell hb 0).trans rfl
  have HU : Hid (c.bs[p]? = some u) := hu
  have HKU : Hid (u.toNat = k) := hku
  have HKC : Hid (k ≠ 1 ∧ k ≠ 2 ∧ k ≠ 3 ∧ k ≠ 4 ∧ k ≠ 8) := hk
  clear h hb hu hk
  go_enter Tryz.func115, Tryz.ntmps115
  go_wp2_with fail
  refine (ro_any c p 0 w H.out).mono ?_
  rintro e w1 ⟨hk, ⟨u', hu', rfl, hr⟩ | ⟨rfl, hx⟩⟩
  · obtain rfl : u' = u := by have h := HU.out; rw [hu'] at h; exact Option.some.inj h
    rw [HKU.out]
    have hb1 : w1.heap[b]? = some (.cells (vz 0) 113) := Bs.blkn (b := b) hk HB.out hbt
    have t1 := hr.c1
    have t4 := hr.c4
    have y0 : w1.cell? ⟨b, 0, none⟩ = some (.int .i64 0) := (blk_cell hb1 0).trans rfl
    have z := blk_frozen hb1 0
    have hm2 : (w1.setCell ⟨b, 0, none⟩ (.int .i64 (k : Int))).heap[c.gm]? = some (.map (KES c.t) 5) := blk_other hr.pa.m (by have := hr.lm; omega) _ _
    obtain ⟨v, hlk⟩ := lookup_none c.t c.gm (k : Int) 5 _ hm2 hf
    have HK1 : Hid (Bs c.t b w (w1.setCell ⟨b, 0, none⟩ (.int .i64 (k : Int)))) := hk.to.set_b _ _
    have HR1 : Hid (Rt c (w1.setCell ⟨b, 0, none⟩ (.int .i64 (k : Int))) (p + 1)) := hr.put hlb _ _
    have HB1 : Hid ((w1.setCell ⟨b, 0, none⟩ (.int .i64 (k : Int))).heap[b]? = some (.cells (vz k) 113)) := blk_set hb1 0 _
    have hk255 : (k : Int) ≤ 255 := by have := u'.toNat_lt; omega
    clear hr hb1 hm2 hf H HB hku
    go_wp2_with fail
    go_end0
    refine ⟨HK1.out, .inl ⟨⟨k, 0, 0, ⟨#[]⟩, 0⟩, p + 1, rfl, by omega, HR1.out, ⟨⟨i64_zero, (by show 0 < 18446744073709551616; omega), by simp [ByteArray.size]⟩, HB1.out⟩, fun y r0 hy hd => ?_⟩⟩
    obtain ⟨g1, g2⟩ := hy.at hd hu'
    rw [HKU.out] at g1
    obtain ⟨q1, q2, q3, q4, q5⟩ := HKC.out
    rw [if_neg (by rw [g1]; omega), if_neg (by rw [g1]; omega), if_neg (by rw [g1]; omega)] at g2
    exact ⟨VD.same g1.symm (hy.n0 (by rw [g1]; omega)).symm (hy.f0 (by rw [g1]; omega)).symm (hy.s0 (by rw [g1]; omega)).symm hy.r.symm, g2⟩
  · refine ⟨rfl, hk.to, .inr ⟨rfl, fun y r0 hy hd => ?_⟩⟩
    have := (List.getElem?_eq_some_iff.1 HU.out).1
    omega

theorem find_none (t k : Nat) (hk : k ≠ 1 ∧ k ≠ 2 ∧ k ≠ 3 ∧ k ≠ 4 ∧ k ≠ 8) : Instr.findNow (.int .i64) (.int .i64 (k : Int)) (KES t).toList 0 = some none := by
  obtain ⟨q1, q2, q3, q4, q5⟩ := hk
  have h1 : ((k : Int) == 1) = false := by simp; omega
  have h2 : ((k : Int) == 2) = false := by simp; omega
  have h3 : ((k : Int) == 3) = false := by simp; omega
  have h4 : ((k : Int) == 4) = false := by simp; omega
  have h8 : ((k : Int) == 8) = false := by simp; omega
  simp only [Instr.findNow, Instr.sameNow, KES, if_true, h1, h2, h3, h4, h8]

theorem rva_any (c : Cx) (p b : Nat) (w : World) (h : Rt c w p) (hb : w.heap[b]? = some (.cells (vz 0) 113)) (hlb : c.B ≤ b) :
    Calls Tryz.prog 115 #[.pointer (some ⟨c.t, 0, none⟩), .pointer (some ⟨b, 0, none⟩)] w (VaG c p b w) := by
  by_cases hp : p < c.n
  · obtain ⟨u, hu⟩ : ∃ u, c.bs[p]? = some u := ⟨c.bs[p]'(by rw [h.hn]; exact hp), by simp⟩
    obtain ⟨k, hk⟩ : ∃ k, u.toNat = k := ⟨_, rfl⟩
    by_cases k1 : k = 1
    · exact rva_num c p b k 0 u w h hb hlb hu hk (.inl k1) (by rw [k1]; rfl)
    by_cases k2 : k = 2
    · exact rva_num c p b k 1 u w h hb hlb hu hk (.inr (.inl k2)) (by rw [k2]; rfl)
    by_cases k8 : k = 8
    · exact rva_num c p b k 4 u w h hb hlb hu hk (.inr (.inr k8)) (by rw [k8]; rfl)
    by_cases k3 : k = 3
    · exact rva_flt c p b k 2 u w h hb hlb hu hk k3 (by rw [k3]; rfl)
    by_cases k4 : k = 4
    · exact rva_str c p b k 3 u w h hb hlb hu hk k4 (by rw [k4]; rfl)
    exact rva_none c p b k u w h hb hlb hu hk ⟨k1, k2, k3, k4, k8⟩ (find_none _ _ ⟨k1, k2, k3, k4, k8⟩)
  · have hpn : c.bs.length ≤ p := by rw [h.hn]; omega
    have H : Hid (Rt c w p) := h
    have e0 : w.cell? ⟨b, 0, none⟩ = some (.int .i64 0) := (blk_cell hb 0).trans rfl
    clear h hb
    go_enter Tryz.func115, Tryz.ntmps115
    go_wp2_with fail
    refine (ro_any c p 0 w H.out).mono ?_
    rintro e w1 ⟨hk, ⟨u', hu', rfl, hr⟩ | ⟨rfl, hx⟩⟩
    · have := (List.getElem?_eq_some_iff.1 hu').1
      omega
    · refine ⟨rfl, hk.to, .inr ⟨rfl, fun y r0 hy hd => ?_⟩⟩
      have := (List.getElem?_eq_some_iff.1 (hy.cell hd).1).1
      omega
end Go.Proofs.YtfkeklndcjkgcaaGreatDoor
