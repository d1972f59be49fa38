/-
  OWN WORK. The specification's shape: what a fn closes over.
-/
import Derived.Test.YtmicnjphlakoaaaGreatDoorCSpI
import Derived.Deep.QuietTactic
import Derived.BigQuiet
namespace Go.Proofs.YtmicnjphlakoaaaGreatDoor
open Go.RowKit
set_option linter.unusedVariables false
set_option linter.unusedSimpArgs false

theorem in_val {v : Bool} (x lo hi : Int) (w : World) (h : inR x lo hi = v) :
    Calls Tryz.prog 23 #[.int .i64 x, .int .i64 lo, .int .i64 hi] w fun e w' => e = .returned (.bool v) ∧ w' = w := h ▸ in_any x lo hi w
theorem below_dr (B : Nat) (w : World) (n : Nat) : Below B w (w.drewN n) := ⟨rfl, rfl, rfl, Nat.le_refl _, fun _ _ => rfl⟩

theorem upsB_not {m : FD} {us : List UD} {j : Nat} {u : UD} (hj : us[j]? = some u) (h : upB m u = false) : upsB m us = false := by
  cases hb : upsB m us
  · rfl
  · have := List.all_eq_true.1 hb u (List.mem_of_getElem? hj)
    rw [h] at this; cases this
theorem upsB_all {m : FD} {us : List UD} (h : ∀ (j : Nat) (u : UD), us[j]? = some u → upB m u = true) : upsB m us = true := by
  refine List.all_eq_true.2 fun u hu => ?_
  obtain ⟨j, hj⟩ := List.getElem?_of_mem hu
  exact h j u hj

/-- A world that lies behind another. -/
structure Lat (w : World) where
  wd : World
  below : Below w.heap.size w wd

theorem lat_some (w : World) : Nonempty (Lat w) := ⟨⟨w, Below.refl _ _⟩⟩

theorem lat_cell {w : World} {a : Addr} {v : Value} (h : w.cell? a = some v) (x : Lat w) : x.wd.cell? a = some v := cell_later x.below h

theorem lat_calls {P : Program} {f : FuncId} {args : Array Value} {w : World} {x : Lat w} {v : Value}
    (h : Calls P f args x.wd fun e w' => e = .returned v ∧ Below x.wd.heap.size x.wd w') : Calls P f args x.wd fun e w' => e = .returned v ∧ ∃ y : Lat w, w' = y.wd :=
  h.mono fun _ w' ⟨he, hb⟩ => ⟨he, ⟨w', x.below.trans (hb.mono x.below.size)⟩, rfl⟩

theorem wp_region_lat {P : Program} {id : Nat} {Q : Exit → Act → World → Prop} {a : Act} {w : World} {l : List Oper} (hm : P.follows .mixedOrders = true) (hB : Region.lexB .any l.toArray = true)
    (h : wpQuiet P l.toArray (fun w' => ∃ x : Lat w, w' = x.wd) (fun a' => ∀ w', (∃ x : Lat w, w' = x.wd) → Q .normal a' w') l a) : (Code.region id l.toArray true).wp P Q a w :=
  wp_region_quiet (C := fun w' => ∃ x : Lat w, w' = x.wd) hm hB ⟨⟨w.drew, (Below.refl _ _).drew⟩, rfl⟩ (by simpa using h)

/-- A new block, its world under a name. -/
theorem newblk (w : World) (o : Obj) : ∃ w2, w2 = w.alloc o ∧ Below w.heap.size w w2 ∧ w2.heap[w.heap.size]? = some o ∧ w2.heap.size = w.heap.size + 1 := ⟨_, rfl, bw1 _ _, blk_new _ _, by simp⟩

set_option maxRecDepth 20000 in
set_option maxHeartbeats 4000000 in
theorem upsok_any (b off len cap p g : Nat) (f k : FC) (w : World) (hpl : p < len) (hgl : g < len) (hlen : len ≤ 1048576) (hc : Cell9 w b (off + p * 9) f) (hg : Cell9 w b (off + g * 9) k) (hl : SlA w 2 UD.cells k.au k.d.ups) (okf : f.d.ok) (okk : k.d.ok) (hr0 : 0 ≤ f.d.regs) (hr1 : f.d.regs ≤ 250) :
    Calls Tryz.prog 12 #[.agg #[.slice (some ⟨b, off, none⟩) len cap], .int .i64 p, .int .i64 g] w fun e w' => e = .returned (.bool (upsB f.d k.d.ups)) ∧ Below w.heap.size w w' := by
  have hx := bw1 w (CO (.slice (some ⟨b, off, none⟩) len cap))
  have g5 := cell_later hx hg.c5
  have HC : Hid (Cell9 w b (off + p * 9) f) := hc
  have HL : Hid (SlA w 2 UD.cells k.au k.d.ups) := hl
  have lk := okk.lu
  have lf := okf.lu
  clear hx hc hg hl okk okf
  obtain ⟨au, hau⟩ : ∃ au, au = k.au := ⟨_, rfl⟩
  obtain ⟨us, hus⟩ : ∃ us, us = k.d.ups := ⟨_, rfl⟩
  rw [← hau, ← hus] at g5
  rw [← hus] at lk ⊢
  replace HL : Hid (SlA w 2 UD.cells au us) := by rw [hau, hus]; exact HL.out
  clear hau hus
  go_enter Tryz.func12, Tryz.ntmps12
  go_wp2_with fail
  clear g5
  go_loopw [16] (fun i wr => ∃ m : Nat, m ≤ us.length ∧ i = .int .i64 m ∧ Below w.heap.size w wr ∧ Hid (wr.heap[w.heap.size]? = some (CO (.slice (some ⟨b, off, none⟩) len cap))) ∧ Hid (∀ j u, j < m → us[j]? = some u → upB f.d u = true)) (fun i _ => us.length - (intOf i).toNat)
  case atStart => exact ⟨0, by omega, rfl, bw1 _ _, blk_new _ _, fun j u hj => absurd hj (Nat.not_lt_zero _)⟩
  case round =>
    obtain ⟨m, hm, rfl, hB, B0, HF⟩ := hrel
    by_cases k1 : m < us.length
    · obtain ⟨u, hu⟩ : ∃ u, us[m]? = some u := ⟨us[m]'k1, by simp⟩
      obtain ⟨bu, ou, rfl, hbu, hcu⟩ := HL.out m u hu
      have d0 : wr.cell? ⟨bu, ou + m * 2, none⟩ = some (.bool u.l) := cell_later hB (hcu 0 _ rfl)
      have d1 : wr.cell? ⟨bu, ou + m * 2 + 1, none⟩ = some (.int .i64 u.i) := cell_later hB (hcu 1 _ rfl)
      have HN : Hid (upB f.d u = false → upsB f.d us = false) := upsB_not hu
      have HF1 : Hid (upB f.d u = true → ∀ j v, j < m + 1 → us[j]? = some v → upB f.d v = true) := by
        intro ht j v hj hv
        by_cases hjm : j = m
        · subst hjm; rw [hu] at hv; cases hv; exact ht
        · exact HF.out j v (by omega) hv
      clear HF hu hcu hbu
      obtain ⟨ul, ui⟩ := u
      simp only at d0 d1 HN HF1
      obtain ⟨w2, hw, hy, hu2, _⟩ := newblk wr (.cells #[.bool ul, .int .i64 ui] 68)
      have u0 : w2.cell? ⟨wr.heap.size, 0, none⟩ = some (.bool ul) := by rw [blk_cell hu2]; rfl
      have u1 : w2.cell? ⟨wr.heap.size, 1, none⟩ = some (.int .i64 ui) := by rw [blk_cell hu2]; rfl
      replace B0 : Hid _ := blk_later hy B0.out
      have a0 : w2.cell? ⟨w.heap.size, 0, none⟩ = some (.slice (some ⟨b, off, none⟩) len cap) := by rw [blk_cell B0.out]; rfl
      have c4 := cell_later hy (cell_later hB HC.out.c4)
      have c5 := cell_later hy (cell_later hB HC.out.c5)
      have HB : Hid (Below w.heap.size w w2) := hB.trans (hy.mono hB.size)
      clear hu2
      have hw1 : IntKind.i64.wrap ((f.d.ups.length : Int) - 1) = (f.d.ups.length : Int) - 1 := by rw [IntKind.wrap_i64]; omega
      have hw2 : IntKind.i64.wrap (f.d.regs - 1) = f.d.regs - 1 := by rw [IntKind.wrap_i64]; omega
      cases ul
      · cases hin : inR ui 0 ((f.d.ups.length : Int) - 1)
        · have HR : Hid (upsB f.d us = false) := HN.out (by simp [upB, hin])
          go_wp2_with fail
          rw [← hw]
          clear hw hy hB d0 d1
          have e0 := lat_cell u0; have e1 := lat_cell u1; have e2 := lat_cell a0; have e4 := lat_cell c4; have e5 := lat_cell c5
          haveI := lat_some w2
          clear u0 u1 a0 c4 c5
          refine wp_region_lat (by kernel_rfl) (by kernel_rfl) ?_
          repeat (go_big_quiet_step ((go_at_call 23; exact lat_calls ((in_val _ _ _ _ hin).mono fun _ _ h => ⟨h.1, h.2 ▸ Below.refl _ _⟩))))
          refine wpQuiet_nil ?_
          rintro _ ⟨nq, rfl⟩
          have hz := HB.out.trans (nq.below.mono HB.out.size)
          go_wp2_with fail
          go_ret
          exact ⟨ret_bo HR.out.symm, hz⟩
        · have HF2 : Hid _ := HF1.out (by simp [upB, hin])
          go_wp2_with fail
          rw [← hw]
          clear hw hy hB d0 d1
          have e0 := lat_cell u0; have e1 := lat_cell u1; have e2 := lat_cell a0; have e4 := lat_cell c4; have e5 := lat_cell c5
          haveI := lat_some w2
          clear u0 u1 a0 c4 c5
          refine wp_region_lat (by kernel_rfl) (by kernel_rfl) ?_
          repeat (go_big_quiet_step ((go_at_call 23; exact lat_calls ((in_val _ _ _ _ hin).mono fun _ _ h => ⟨h.1, h.2 ▸ Below.refl _ _⟩))))
          refine wpQuiet_nil ?_
          rintro _ ⟨nq, rfl⟩
          have hz := HB.out.trans (nq.below.mono HB.out.size)
          replace B0 : Hid _ := blk_later nq.below B0.out
          clear e0 e1 e2 e4 e5
          go_wp2_with fail
          go_roundw
          case rel => exact ⟨m + 1, by omega, by go_num, hz, B0, HF2⟩
          case measure => simp [intOf]; omega
      · cases hin : inR ui 0 (f.d.regs - 1)
        · have HR : Hid (upsB f.d us = false) := HN.out (by simp [upB, hin])
          go_wp2_with fail
          rw [← hw]
          clear hw hy hB d0 d1
          have e0 := lat_cell u0; have e1 := lat_cell u1; have e2 := lat_cell a0; have e4 := lat_cell c4; have e5 := lat_cell c5
          haveI := lat_some w2
          clear u0 u1 a0 c4 c5
          refine wp_region_lat (by kernel_rfl) (by kernel_rfl) ?_
          repeat (go_big_quiet_step ((go_at_call 23; exact lat_calls ((in_val _ _ _ _ hin).mono fun _ _ h => ⟨h.1, h.2 ▸ Below.refl _ _⟩))))
          refine wpQuiet_nil ?_
          rintro _ ⟨nq, rfl⟩
          have hz := HB.out.trans (nq.below.mono HB.out.size)
          go_wp2_with fail
          go_ret
          exact ⟨ret_bo HR.out.symm, hz⟩
        · have HF2 : Hid _ := HF1.out (by simp [upB, hin])
          go_wp2_with fail
          rw [← hw]
          clear hw hy hB d0 d1
          have e0 := lat_cell u0; have e1 := lat_cell u1; have e2 := lat_cell a0; have e4 := lat_cell c4; have e5 := lat_cell c5
          haveI := lat_some w2
          clear u0 u1 a0 c4 c5
          refine wp_region_lat (by kernel_rfl) (by kernel_rfl) ?_
          repeat (go_big_quiet_step ((go_at_call 23; exact lat_calls ((in_val _ _ _ _ hin).mono fun _ _ h => ⟨h.1, h.2 ▸ Below.refl _ _⟩))))
          refine wpQuiet_nil ?_
          rintro _ ⟨nq, rfl⟩
          have hz := HB.out.trans (nq.below.mono HB.out.size)
          replace B0 : Hid _ := blk_later nq.below B0.out
          clear e0 e1 e2 e4 e5
          go_wp2_with fail
          go_roundw
          case rel => exact ⟨m + 1, by omega, by go_num, hz, B0, HF2⟩
          case measure => simp [intOf]; omega
    · have HR : Hid (upsB f.d us = true) := upsB_all fun j u hu => HF.out j u (by have := (List.getElem?_eq_some_iff.1 hu).1; omega) hu
      clear HF
      go_wp2_with fail
      go_ret
      exact ⟨ret_bo HR.out.symm, hB⟩
end Go.Proofs.YtmicnjphlakoaaaGreatDoor
