/-
  OWN WORK. The program's lines of a listing.
-/
import Derived.Test.YtfkeklndcjkgcaaGreatDoorLBld
import Derived.Test.YtfkeklndcjkgcaaGreatDoorLSpC
namespace Go.Proofs.YtfkeklndcjkgcaaGreatDoor
open Go.RowKit
set_option linter.unusedVariables false
set_option linter.unusedSimpArgs false

/-- The table of names in memory. -/
def NamesAt (w : World) : Prop := ∀ k, k < 43 → w.cell? ⟨0, k, none⟩ = some (.string (sOf (nameL (k : Int))))
theorem NamesAt.later {w wx : World} (hb : Below w.heap.size w wx) (h : NamesAt w) : NamesAt wx := fun k hk => cell_later hb (h k hk)
/-- The library's table of powers of ten. -/
def TenAt (w : World) : Prop := Lib.TabIs Tryz.prog w "internal/strconv.uint64pow10" .u64 Lib.pow10Tab
theorem ten_g : Tryz.prog.globalNamed "internal/strconv.uint64pow10" = some 3 := by kernel_rfl
theorem TenAt.later {w wx : World} (hb : Below w.heap.size w wx) (h : TenAt w) : TenAt wx := by
  unfold TenAt Lib.TabIs World.var? at *
  simp only [ten_g, Option.bind_some] at h ⊢
  rw [hb.block _ ?_]
  · exact h
  · rcases Nat.lt_or_ge 3 w.heap.size with h' | h'
    · exact h'
    · rw [Array.getElem?_eq_none h'] at h; simp at h

theorem below_grow (w : World) (k : Nat) (os : Array Obj) : Below w.heap.size w (Sort.grow (w.drewN k) os) :=
  ⟨rfl, rfl, rfl, by show w.heap.size ≤ (w.heap ++ os).size; rw [Array.size_append]; omega, fun j hj => Array.getElem?_append_left hj⟩
theorem itoa_any (n : Int) (h0 : -9223372036854775808 ≤ n) (h1 : n ≤ 9223372036854775807) (w : World) (h : TenAt w) : Calls Tryz.prog 54 #[.int .i64 n] w fun e w' => e = .returned (.string (sOf (Lib.itoa n))) ∧ Below w.heap.size w w' := by
  refine (strconv_Itoa n h0 h1 w h).mono ?_
  rintro e w' ⟨rfl, k, os, rfl⟩
  exact ⟨rfl, below_grow _ _ _⟩

/-- The strings that a line begins with. -/
theorem ihead_strs (w2 : World) (hT : TenAt w2) (p i : Nat) (op : Int) (hp : p ≤ 1048576) (hi : i ≤ 1048576) : ∃ (S : Nat → ByteArray) (s1 s2 s3 s4 : ByteArray),
    (∀ (z : Nat) (x : Lat w2), z ≤ 1048576 → Calls Tryz.prog 54 #[.int .i64 (z : Int)] x.wd fun e w' => e = .returned (.string (S z)) ∧ Below x.wd.heap.size x.wd w') ∧
    S p ++ { data := #[58] } = s1 ∧ s1 ++ S i = s2 ∧ s2 ++ { data := #[32] } = s3 ∧ s3 ++ sOf (nameL op) = s4 ∧ Hid (s4 = sOf (headL p i op)) ∧
    ¬ 9223372036854775807 < (S p).size + ({ data := #[58] } : ByteArray).size ∧ ¬ 9223372036854775807 < s1.size + (S i).size ∧ ¬ 9223372036854775807 < s2.size + ({ data := #[32] } : ByteArray).size ∧ ¬ 9223372036854775807 < s3.size + (sOf (nameL op)).size := by
  have e1 := itoa_le p (by omega) (by omega)
  have e2 := itoa_le i (by omega) (by omega)
  have e3 := nameL_le op
  refine ⟨fun z => sOf (Lib.itoa z), sOf (Lib.itoa p ++ [58]), sOf (Lib.itoa p ++ [58] ++ Lib.itoa i), sOf (Lib.itoa p ++ [58] ++ Lib.itoa i ++ [32]), sOf (headL p i op), fun z x hz => itoa_any z (by omega) (by omega) x.wd (hT.later x.below), sOf_app _ [58], sOf_app _ _, sOf_app _ [32], sOf_app _ _, rfl, ?_, ?_, ?_, ?_⟩
  · exact not_long (b := [58]) (by simp; omega)
  · exact not_long (by simp; omega)
  · exact not_long (b := [32]) (by simp; omega)
  · exact not_long (by simp; omega)
theorem ifield_strs (l : List UInt8) (x : Int) (hl : l.length ≤ 1000) (h0 : -250 ≤ x) (h1 : x ≤ 1048576) : ∃ t0 t1 s1 : ByteArray,
    (∀ W : World, TenAt W → Calls Tryz.prog 54 #[.int .i64 x] W fun e w' => e = .returned (.string t0) ∧ Below W.heap.size W w') ∧
    { data := #[32] } ++ t0 = t1 ∧ sOf l ++ t1 = s1 ∧ Hid (s1 = sOf (l ++ fieldL x)) ∧
    ¬ 9223372036854775807 < ({ data := #[32] } : ByteArray).size + t0.size ∧ ¬ 9223372036854775807 < (sOf l).size + t1.size := by
  have e1 := itoa_le x (by omega) (by omega)
  refine ⟨sOf (Lib.itoa x), sOf (fieldL x), sOf (l ++ fieldL x), fun W h => itoa_any x (by omega) (by omega) W h, sOf_app [32] _, sOf_app _ _, rfl, ?_, ?_⟩
  · exact not_long (a := [32]) (by simp; omega)
  · exact not_long (by simp [fieldL]; omega)

theorem idx4 (a b c d x : Int) (q : Nat) (hq : q < 4) (h : ([a, b, c, d] : List Int)[q]? = some x) (w : World) : (Instr.index 102 (.agg #[.int .i64 a, .int .i64 b, .int .i64 c, .int .i64 d]) (.int .i64 (q : Int))).run Tryz.prog w = .ok (.int .i64 x) w := by
  rcases (by omega : q = 0 ∨ q = 1 ∨ q = 2 ∨ q = 3) with rfl | rfl | rfl | rfl
  · obtain rfl : a = x := by simpa using h
    kernel_rfl
  · obtain rfl : b = x := by simpa using h
    kernel_rfl
  · obtain rfl : c = x := by simpa using h
    kernel_rfl
  · obtain rfl : d = x := by simpa using h
    kernel_rfl

set_option maxRecDepth 20000 in
set_option maxHeartbeats 8000000 in
theorem line_any (p i : Nat) (n : ID) (w : World) (hp : p ≤ 1048576) (hi : i ≤ 1048576) (hn : InsSmall n) (hT0 : TenAt w) (hN0 : NamesAt w) :
    Calls Tryz.prog 29 #[.int .i64 (p : Int), .int .i64 (i : Int), IV n] w fun e w' => e = .returned (.string (sOf (lineL p i n ++ [10]))) ∧ Below w.heap.size w w' := by
  have HS : Hid (InsSmall n) := hn
  obtain ⟨op, na, nb, nc, nd⟩ := n
  obtain ⟨k, rfl⟩ : ∃ k : Nat, op = (k : Int) := ⟨op.toNat, by have := hn.o0; simp only at this; omega⟩
  have hk : k < 43 := by have := hn.o1; simp only at this; omega
  clear hn
  obtain ⟨w2, hw, hy, hbk, _⟩ := newblk w (.cells #[.int .i64 (k : Int), .int .i64 na, .int .i64 nb, .int .i64 nc, .int .i64 nd] 52)
  have HT : Hid (TenAt w2) := hT0.later hy
  have hN := hN0.later hy k hk
  obtain ⟨S, s1, s2, s3, s4, hsd, x1, x2, x3, x4, HH, y1, y2, y3, y4⟩ := ihead_strs w2 HT.out p i k hp hi
  obtain ⟨gi, hgi⟩ : ∃ gi, gi = w.heap.size := ⟨_, rfl⟩
  rw [← hgi] at hbk
  have BI : Hid (w2.heap[gi]? = some (.cells #[.int .i64 (k : Int), .int .i64 na, .int .i64 nb, .int .i64 nc, .int .i64 nd] 52)) := hbk
  clear hbk hN0 hT0
  go_enter Tryz.func29, Tryz.ntmps29
  go_wp2_with fail
  rw [← hw]
  rw [← hgi]
  have e0 : w2.cell? ⟨gi, 0, none⟩ = some (.int .i64 (k : Int)) := by rw [blk_cell BI.out]; rfl
  have HB2 : Hid (Below w.heap.size w w2) := hy
  clear hw hy hgi
  have e1 := lat_cell e0
  have e2 := lat_cell hN
  clear e0 hN
  haveI := lat_some w2
  refine wp_region_lat (by kernel_rfl) (by kernel_rfl) ?_
  repeat (go_big_quiet_step ((go_at_call 54; exact lat_calls (hsd _ _ (by omega)))))
  refine wpQuiet_nil ?_
  rintro _ ⟨nq, rfl⟩
  obtain ⟨w3, hw3⟩ : ∃ w3, w3 = nq.wd := ⟨_, rfl⟩
  have hx : Below w2.heap.size w2 w3 := by rw [hw3]; exact nq.below
  rw [← hw3]
  have hB3 : Below w.heap.size w w3 := HB2.out.trans (hx.mono HB2.out.size)
  replace HT : Hid _ := HT.out.later hx
  replace BI : Hid _ := blk_later hx BI.out
  clear hw3 nq e1 e2 hx HB2 hsd x1 x2 x3 x4 y1 y2 y3 y4
  have d1 : w3.cell? ⟨gi, 1, none⟩ = some (.int .i64 na) := by rw [blk_cell BI.out]; rfl
  have d2 : w3.cell? ⟨gi, 2, none⟩ = some (.int .i64 nb) := by rw [blk_cell BI.out]; rfl
  have d3 : w3.cell? ⟨gi, 3, none⟩ = some (.int .i64 nc) := by rw [blk_cell BI.out]; rfl
  have d4 : w3.cell? ⟨gi, 4, none⟩ = some (.int .i64 nd) := by rw [blk_cell BI.out]; rfl
  go_wp2_with fail
  rw [HH.out]
  have hhl := headL_le p i (k : Int) hp hi
  clear d1 d2 d3 d4 BI
  go_loopw [7, 31] (fun o j wr => ∃ (q : Nat) (t : List UInt8), q ≤ 4 ∧ j = .int .i64 q ∧ o = .string (sOf t) ∧ Hid (t = headL p i (k : Int) ++ (([na, nb, nc, nd] : List Int).take q).flatMap fieldL) ∧ Below w.heap.size w wr ∧ Hid (TenAt wr)) (fun _ j _ => 4 - (intOf j).toNat)
  case atStart => exact ⟨0, headL p i (k : Int), by omega, rfl, rfl, by show _ = _; simp, hB3, HT⟩
  case round =>
    clear hB3 HT HH
    obtain ⟨q, t, hq, rfl, rfl, HTE, hB, HT⟩ := hrel
    have htl : t.length ≤ 100 := by
      have h1 := flat_le HS.out q
      rw [HTE.out, List.length_append]
      have h2 : ((([na, nb, nc, nd] : List Int).take q).flatMap fieldL).length ≤ 40 := h1
      omega
    by_cases k3 : q < 4
    · obtain ⟨x, hx1, hx2, hx3, hx4⟩ := fld_small HS.out q k3
      have hix := idx4 na nb nc nd x q k3 hx1 wr
      obtain ⟨t0, t1, s1, hd, z1, z2, HS2, y1, y2⟩ := ifield_strs t x (by omega) hx3 hx4
      have HT1 : Hid (t ++ fieldL x = headL p i (k : Int) ++ (([na, nb, nc, nd] : List Int).take (q + 1)).flatMap fieldL) := by
        show _ = _
        have hx1' : ([na, nb, nc, nd] : List Int)[q]? = some x := hx1
        rw [List.take_add_one, hx1', HTE.out]; simp
      have k4 : (q : Int) < 4 := by omega
      clear hx1 hx2 hx3 hx4 HTE
      go_wp2_with (go_at_call 54; refine (hd _ HT.out).mono ?_; rintro e w5 ⟨rfl, hx⟩)
      have hB5 := hB.trans (hx.mono hB.size)
      go_roundw
      case rel => exact ⟨q + 1, t ++ fieldL x, by omega, by go_num, by rw [HS2.out], HT1, hB5, HT.out.later hx⟩
      case measure => simp [intOf]; omega
    · have hq4 : q = 4 := by omega
      have HT4 : Hid (t = lineL p i ⟨(k : Int), na, nb, nc, nd⟩) := by
        show _ = _
        rw [HTE.out, hq4]; rfl
      have e3 := sOf_app t [10]
      have y1 : ¬ 9223372036854775807 < (sOf t).size + (sOf [10]).size := not_long (by simp; omega)
      rw [show sOf [10] = { data := #[10] } from rfl] at e3 y1
      have k4 : ¬ (q : Int) < 4 := by omega
      clear HTE
      go_wp2_with fail
      go_ret
      exact ⟨by rw [← HT4.out]; rfl, hB⟩
end Go.Proofs.YtfkeklndcjkgcaaGreatDoor
