import Derived.Test.YtfkeklndcjkgcaaGreatDoorEiF
import Derived.Recover
/-
  OWN WORK. The program's codes on a tape that is written. (The last theorem is written by tools/genthr.py.)
-/
namespace Go.Proofs.YtfkeklndcjkgcaaGreatDoor
open Go.RowKit
attribute [local go_sem] run_store_float
set_option linter.unusedVariables false
set_option linter.unusedSimpArgs false

/-- What is still to be written of a proto. -/
def prest (d : FD) : Nat → List UInt8
  | 0 => protoL d
  | 1 => listL upL d.ups ++ (listL constL d.consts ++ (listL stepL d.ins ++ listL namedL d.named))
  | 2 => listL constL d.consts ++ (listL stepL d.ins ++ listL namedL d.named)
  | 3 => listL stepL d.ins ++ listL namedL d.named
  | 4 => listL namedL d.named
  | _ => []
def protoF (x : FC) : List UInt8 := protoL x.d
theorem prest4 (l T : List UInt8) (d : FD) (h : l ++ prest d 4 = T) : (l ++ listL namedL d.named) ++ prest d 5 = T := by rw [← h]; simp [prest]

set_option maxRecDepth 20000 in
set_option maxHeartbeats 8000000 in
theorem tproto_any (B t gp gm : Nat) (l : List UInt8) (x : FC) (b o : Nat) (w : World) (h : Tape w B t gp gm l) (hp : Parts w t gp gm) (hx : FSm x.d) (hs : PS w B t b o x) :
    Calls Tryz.prog 125 #[.pointer (some ⟨t, 0, none⟩), .pointer (some ⟨b, o, none⟩)] w (Wrote B t gp gm w (l ++ protoF x) (.tuple #[])) := by
  have HT : Hid (Tape w B t gp gm l) := h
  have HP : Hid (Parts w t gp gm) := hp
  have HX : Hid (FSm x.d) := hx
  have HS : Hid (PS w B t b o x) := hs
  have t3 := h.parts
  clear h hp hx hs
  go_enter Tryz.func125, Tryz.ntmps125
  go_wp2_with fail
  clear t3
  go_loopw [11] (fun i wr => ∃ (m : Nat) (l1 : List UInt8), m ≤ 5 ∧ i = .int .i64 m ∧ Hid (Tape wr B t gp gm l1) ∧ Hid (l1 ++ prest x.d m = l ++ protoF x) ∧ Hid (Kp B (some t) w wr)) (fun i _ => 5 - (intOf i).toNat)
  case atStart => exact ⟨0, _, Nat.zero_le _, rfl, HT, rfl, Kp.refl _ _ _⟩
  case round =>
    clear HT
    obtain ⟨m, l1, hm, rfl, HT, HE, HK⟩ := hrel
    have HPX : Hid (Parts wr t gp gm) := HP.out.keep HK.out
    have HSX : Hid (PS wr B t b o x) := HS.out.keep HK.out
    by_cases k1 : m < 5
    · have hm5 : m = 0 ∨ m = 1 ∨ m = 2 ∨ m = 3 ∨ m = 4 := by omega
      clear k1 hm
      rcases hm5 with rfl | rfl | rfl | rfl | rfl
      case' inl =>
        have e0 : wr.cell? ⟨gp, 0, none⟩ = some (MV 59 t) := (blk_cell HPX.out.p 0).trans rfl
        have HE1 : Hid ((l1 ++ headE x.d) ++ prest x.d (0 + 1) = l ++ protoF x) := step_on HE.out
        clear HE
        go_wp2_with fail
        refine (thead_any B t gp gm l1 x.d b o wr HT.out (by have := HX.out.name; omega) (HSX.out.c 0 _ rfl) (HSX.out.c 1 _ rfl) (HSX.out.c 2 _ rfl) (HSX.out.c 3 _ rfl) (HSX.out.c 4 _ rfl)).mono ?_
      case' inr.inl =>
        have e0 : wr.cell? ⟨gp, 1, none⟩ = some (MV 60 t) := (blk_cell HPX.out.p 1).trans rfl
        have HE1 : Hid ((l1 ++ listL upL x.d.ups) ++ prest x.d (1 + 1) = l ++ protoF x) := step_on HE.out
        clear HE
        go_wp2_with fail
        refine (ups_any B t gp gm l1 x b o wr HT.out HPX.out HX.out HSX.out).mono ?_
      case' inr.inr.inl =>
        have e0 : wr.cell? ⟨gp, 2, none⟩ = some (MV 61 t) := (blk_cell HPX.out.p 2).trans rfl
        have HE1 : Hid ((l1 ++ listL constL x.d.consts) ++ prest x.d (2 + 1) = l ++ protoF x) := step_on HE.out
        clear HE
        go_wp2_with fail
        refine (consts_any B t gp gm l1 x b o wr HT.out HPX.out HX.out HSX.out).mono ?_
      case' inr.inr.inr.inl =>
        have e0 : wr.cell? ⟨gp, 3, none⟩ = some (MV 62 t) := (blk_cell HPX.out.p 3).trans rfl
        have HE1 : Hid ((l1 ++ listL stepL x.d.ins) ++ prest x.d (3 + 1) = l ++ protoF x) := step_on HE.out
        clear HE
        go_wp2_with fail
        refine (steps_any B t gp gm l1 x b o wr HT.out HPX.out HX.out HSX.out).mono ?_
      case' inr.inr.inr.inr =>
        have e0 : wr.cell? ⟨gp, 4, none⟩ = some (MV 63 t) := (blk_cell HPX.out.p 4).trans rfl
        have HE1 : Hid ((l1 ++ listL namedL x.d.named) ++ prest x.d (4 + 1) = l ++ protoF x) := prest4 _ _ _ HE.out
        clear HE
        go_wp2_with fail
        refine (names_any B t gp gm l1 x b o wr HT.out HPX.out HX.out HSX.out).mono ?_
      all_goals
        rintro e w3 ⟨hK, ⟨rfl, hT⟩ | ⟨rfl, hx⟩⟩
        · have HT3 : Hid (Tape w3 B t gp gm _) := hT
          have HK3 : Hid (Kp B (some t) w w3) := HK.out.trans hK
          clear hT hK HT HK e0
          go_wp2_with fail
          go_roundw
          case rel => exact ⟨_, _, by omega, by go_num, HT3, HE1, HK3⟩
          case measure => simp [intOf]
        · exact ⟨rfl, HK.out.trans hK, .inr ⟨rfl, wrote_len hx HE1.out⟩⟩
    · obtain rfl : m = 5 := by omega
      have HE1 : Hid (l1 = l ++ protoF x) := by have h := HE.out; simp only [prest, List.append_nil] at h; exact h
      clear HE
      go_wp2_with fail
      go_end0
      exact ⟨HK.out, .inl ⟨rfl, by rw [← HE1.out]; exact HT.out⟩⟩

set_option maxRecDepth 20000 in
set_option maxHeartbeats 4000000 in
theorem th_proto (B t gp gm : Nat) (l : List UInt8) (xs : List FC) (p : Addr) (a : Option Addr) (n cap : Nat) (w : World) (h : Tape w B t gp gm l) (hp : Parts w t gp gm) (hn : n = xs.length) (hn2 : n ≤ 1048576) (hl : Sc w B t p (.slice a n cap)) (hs : SlS w B t 9 FC.cells a xs) (hx' : ∀ v ∈ xs, FSm v.d ∧ SlS w B t 2 UD.cells v.au v.d.ups ∧ SlS w B t 5 VD.cells v.ac v.d.consts ∧ SlS w B t 5 ID.cells v.ai v.d.ins ∧ SlS w B t 4 ND.cells v.an v.d.named) :
    Calls Tryz.prog 124 #[.pointer (some ⟨t, 0, none⟩), .pointer (some p), MV 125 t] w (Wrote B t gp gm w (l ++ listL protoF xs) (.tuple #[])) := by
  have HT : Hid (Tape w B t gp gm l) := h
  have HP : Hid (Parts w t gp gm) := hp
  have HL : Hid (Sc w B t p (.slice a n cap)) := hl
  have HS : Hid (SlS w B t 9 FC.cells a xs) := hs
  have HN : Hid (n = xs.length) := hn
  have e0 := hl.1
  clear h hp hl hs hn
  go_enter Tryz.func124, Tryz.ntmps124
  go_wp2_with fail
  refine (count_any B t gp gm l (n : Int) _ HT.out).mono ?_
  rintro e w2 ⟨hK, ⟨rfl, hT⟩ | ⟨rfl, hx⟩⟩
  rotate_left
  · exact ⟨rfl, hK, .inr ⟨rfl, wrote_len hx (b := xs.flatMap protoF) (by unfold listL; rw [HN.out, List.append_assoc])⟩⟩
  have t1 := hT.reads
  have e1 := (HL.out.keep hK).1
  have HT2 : Hid (Tape w2 B t gp gm (l ++ numL (n : Int))) := hT
  have HK2 : Hid (Kp B (some t) w w2) := hK
  clear hT hK e0
  go_wp2_with fail
  clear t1 e1
  go_loopw [24] (fun i wr => ∃ (m : Nat) (l1 : List UInt8), m ≤ n ∧ i = .int .i64 m ∧ Hid (Tape wr B t gp gm l1) ∧ Hid (l1 ++ (xs.drop m).flatMap protoF = l ++ listL protoF xs) ∧ Hid (Kp B (some t) w wr)) (fun i _ => n - (intOf i).toNat)
  case atStart => exact ⟨0, _, Nat.zero_le _, rfl, HT2, by show _ = _; unfold listL; rw [HN.out, List.append_assoc]; rfl, HK2⟩
  case round =>
    clear HT2 HK2
    obtain ⟨m, l1, hm, rfl, HT1, HE, HK⟩ := hrel
    by_cases k1 : m < n
    · obtain ⟨x, hx⟩ : ∃ x, xs[m]? = some x := ⟨xs[m]'(by rw [← HN.out]; exact k1), by simp⟩
      obtain ⟨b, off, hab, hc⟩ := HS.out m x hx
      have e1 := (HL.out.keep HK.out).1
      rw [hab] at e1
      have HCX : Hid (∀ j v, (FC.cells x)[j]? = some v → Sc wr B t ⟨b, off + m * 9 + j, none⟩ v) := fun j v hv => (hc j v hv).keep HK.out
      have HPX : Hid (Parts wr t gp gm) := HP.out.keep HK.out
      have HE1 : Hid ((l1 ++ protoF x) ++ (xs.drop (m + 1)).flatMap protoF = l ++ listL protoF xs) := by have h := HE.out; rw [flatMap_drop _ hx, ← List.append_assoc] at h; exact h
      obtain ⟨hfs, hl1, hl2, hl3, hl4⟩ := hx' x (List.mem_of_getElem? hx)
      have HFS : Hid (FSm x.d) := hfs
      have HPS : Hid (PS wr B t b (off + m * 9) x) := ⟨HCX.out, hl1.keep HK.out, hl2.keep HK.out, hl3.keep HK.out, hl4.keep HK.out⟩
      clear hfs hl1 hl2 hl3 hl4
      clear hc hx HE hab
      go_wp2_with fail
      refine (tproto_any B t gp gm l1 x b (off + m * 9) wr HT1.out HPX.out HFS.out HPS.out).mono ?_
      rintro e w3 ⟨hK, ⟨rfl, hT⟩ | ⟨rfl, hx⟩⟩
      · have HT3 : Hid (Tape w3 B t gp gm _) := hT
        have HK3 : Hid (Kp B (some t) w w3) := HK.out.trans hK
        clear hT hK HT1 HK e1
        go_wp2_with fail
        go_roundw
        case rel => exact ⟨m + 1, _, by omega, by go_num, HT3, HE1, HK3⟩
        case measure => simp [intOf]; omega
      · exact ⟨rfl, HK.out.trans hK, .inr ⟨rfl, wrote_len hx HE1.out⟩⟩
    · have HE1 : Hid (l1 = l ++ listL protoF xs) := by
        have h := HE.out
        rw [fdrop_end (by rw [← HN.out]; omega), List.append_nil] at h
        exact h
      clear HE
      go_wp2_with fail
      go_end0
      exact ⟨HK.out, .inl ⟨rfl, by rw [← HE1.out]; exact HT1.out⟩⟩
end Go.Proofs.YtfkeklndcjkgcaaGreatDoor

/-
  OWN WORK. The program's Encode.
-/
namespace Go.Proofs.YtfkeklndcjkgcaaGreatDoor
open Go.RowKit
attribute [local go_sem] run_store_float
set_option linter.unusedVariables false
set_option linter.unusedSimpArgs false

theorem listF (xs : List FC) : listL protoL (xs.map FC.d) = listL protoF xs := by
  unfold listL
  rw [List.length_map, List.flatMap_map]
  rfl
theorem MK_get (j : Nat) (u : UInt8) (h : [(72 : UInt8), 67, 1][j]? = some u) : (#[.int .u8 72, .int .u8 67, .int .u8 1] : Array Value)[j]? = some (.int .u8 (u.toNat : Int)) := by
  match j, h with
  | 0, h => cases h; rfl
  | 1, h => cases h; rfl
  | 2, h => cases h; rfl
  | j + 3, h => simp at h
theorem freeze_new (w : World) (C : Array Value) (e : TypeId) (n : Nat) : (w.alloc (.cells C e)).freeze ⟨w.heap.size, n, none⟩ 1 = w.alloc (.cells C e (n, n + 1)) := by
  have hm : ∀ (a : Array Obj) (x : Obj) (f : Obj → Obj), (a.push x).modify a.size f = a.push (f x) := by
    intro a x f
    apply Array.ext
    · simp
    · intro i h1 h2
      simp only [Array.getElem_modify, Array.getElem_push]
      by_cases h : a.size = i
      · subst h
        simp
      · have hi : i < a.size := by simp at h1; omega
        simp [h, hi]
  unfold World.freeze
  rw [if_neg (by decide)]
  show ({ w.alloc (.cells C e) with heap := (w.heap.push (.cells C e)).modify w.heap.size _ } : World) = _
  rw [hm]
  rfl
theorem conv_mark (w : World) (C : Array Value) : (convert 33 33 (.slice (some ⟨w.heap.size, 0, none⟩) 3 3)).run Tryz.prog (w.alloc (.cells C 5)) = .ok (.slice (some ⟨w.heap.size, 0, none⟩) 3 3) (w.alloc (.cells C 5 (C.size, C.size + 1))) := by
  have hsh : (w.alloc (.cells C 5)).shape? w.heap.size = some (5, C.size) := by
    unfold World.shape?
    rw [blk_new]
  simp [convert, run_underlying Tryz.underlying33, run_underlying Tryz.underlying5, markStringish, hsh]
  exact freeze_new _ _ _ _
theorem Kp.old' {B t : Nat} {w0 w w' : World} (h : Kp B (some t) w w') (hB : w0.heap.size ≤ B) (hb : Below w0.heap.size w0 w) (ht : w0.heap.size ≤ t) : Below w0.heap.size w0 w' :=
  hb.trans ⟨h.os, h.tape, h.output, h.size, fun j hj => h.block j (Nat.lt_of_lt_of_le hj hb.size) (fun he => by cases he; omega) (.inl (by omega))⟩
theorem BRow.mono {w : World} {B B' : Nat} {sv : Value} {l : List UInt8} (h : BRow w B sv l) (hB : B' ≤ B) : BRow w B' sv l := by
  obtain ⟨h1, h2⟩ := h
  refine ⟨h1, ?_⟩
  rcases h2 with h2 | ⟨g, cap, cur, e1, e2, e3⟩
  · exact .inl h2
  · exact .inr ⟨g, cap, cur, e1, Nat.le_trans hB e2, e3⟩

set_option maxRecDepth 20000 in
set_option maxHeartbeats 8000000 in
theorem code_any (t gp gm gc : Nat) (a : Option Addr) (len cap : Nat) (xs : List FC) (w0 w : World) (H0 : CodeAt w0 a xs) (hl : xs.length = len) (hx : ∀ x ∈ xs, FSm x.d) (hb : Below w0.heap.size w0 w) (ht : w0.heap.size ≤ t) (hc : w.heap[gc]? = some (CO (.slice a len cap))) (hT : w.heap[t]? = some (TO (.slice none 0 0) gp gm)) (hP : Parts w t gp gm) :
    Calls Tryz.prog 68 #[.pointer (some ⟨t, 0, none⟩), .pointer (some ⟨gc, 0, none⟩)] w fun e w' => Below w0.heap.size w0 w' ∧ ((e = .returned (.tuple #[]) ∧ ∃ sv, w'.heap[t]? = some (TO sv gp gm) ∧ BRow w' w0.heap.size sv (imageL (xs.map FC.d)) ∧ (imageL (xs.map FC.d)).length ≤ 1000000) ∨ (e = .panicked CH ∧ 1000000 < (imageL (xs.map FC.d)).length)) := by
  have hgt : gc ≠ t := by
    intro he
    rw [he, hT] at hc
    cases hc
  have hlen : len ≤ 1048576 := by rw [← hl]; exact H0.len
  obtain ⟨w1, hw1, hy, hbk, hsz⟩ := newblk w (.cells #[.int .u8 72, .int .u8 67, .int .u8 1] 5 (3, 4))
  have hlt : w.heap.size < w1.heap.size := by omega
  have hcell : ∀ j u, [(72 : UInt8), 67, 1][j]? = some u → w1.cell? ⟨w.heap.size, j, none⟩ = some (.int .u8 (u.toNat : Int)) := fun j u hu => (blk_cellf hbk j).trans (MK_get j u hu)
  have htw := blk_lt hT
  have htt : w0.heap.size ≤ t := ht
  obtain ⟨B, hB⟩ : ∃ B, B = w1.heap.size := ⟨_, rfl⟩
  have HT : Hid (Tape w1 B t gp gm []) := ⟨⟨_, blk_later hy hT, BRow.nil _ _⟩, by simp, by rw [hB]; exact Nat.le_refl _⟩
  have HP : Hid (Parts w1 t gp gm) := hP.later hy
  have HC : Hid (Sc w1 B t ⟨gc, 0, none⟩ (.slice a len cap)) := Sc.blk (blk_later hy hc) (by decide) hgt 0 _ rfl
  have hb1 : Below w0.heap.size w0 w1 := hb.trans (hy.mono hb.size)
  have hBw : w0.heap.size ≤ B := by rw [hB]; exact hb1.size
  have HS : Hid (SlS w1 B t 9 FC.cells a xs) := SlS.of H0.row hb1 hBw (by rw [hB]; exact Nat.le_refl _) ht
  have HF : Hid (∀ v ∈ xs, FSm v.d ∧ SlS w1 B t 2 UD.cells v.au v.d.ups ∧ SlS w1 B t 5 VD.cells v.ac v.d.consts ∧ SlS w1 B t 5 ID.cells v.ai v.d.ins ∧ SlS w1 B t 4 ND.cells v.an v.d.named) := fun v hv =>
    ⟨hx v hv, SlS.of (H0.lie v hv).u hb1 hBw (by rw [hB]; exact Nat.le_refl _) ht, SlS.of (H0.lie v hv).c hb1 hBw (by rw [hB]; exact Nat.le_refl _) ht, SlS.of (H0.lie v hv).i hb1 hBw (by rw [hB]; exact Nat.le_refl _) ht, SlS.of (H0.lie v hv).n hb1 hBw (by rw [hB]; exact Nat.le_refl _) ht⟩
  have HM : Hid (∀ j u, [(72 : UInt8), 67, 1][j]? = some u → Sc w1 B t ⟨w.heap.size, j, none⟩ (.int .u8 (u.toNat : Int))) := fun j u hu => Sc.old (hcell j u hu) (by rw [hB]; exact hlt) (by rw [hB]; exact Nat.le_refl _) (by omega)
  have HB1 : Hid (Below w0.heap.size w0 w1) := hb1
  have HL : Hid (xs.length = len) := hl
  obtain ⟨T, hTT⟩ : ∃ T, T = imageL (xs.map FC.d) := ⟨_, rfl⟩
  have HI : Hid (T = [72, 67, 1] ++ listL protoF xs) := by show _ = _; rw [hTT]; unfold imageL; rw [listF]
  rw [← hTT]
  have hmf := mkf
  have hcv' : (convert 33 33 (.slice (some ⟨w.heap.size, 0, none⟩) 3 3)).run Tryz.prog (w.alloc (.cells #[.int .u8 72, .int .u8 67, .int .u8 1] 5)) = .ok (.slice (some ⟨w.heap.size, 0, none⟩) 3 3) w1 := by rw [hw1]; exact conv_mark w _
  clear H0 hl hx hb ht hc hT hP hy hcell hlt hb1 hB hTT hbk hsz hw1
  go_enter Tryz.func68, Tryz.ntmps68
  go_wp2_with fail
  clear hcv'
  go_loopw [9] (fun i wr => ∃ (m : Nat) (l1 : List UInt8), m ≤ 3 ∧ i = .int .i64 m ∧ Hid (Tape wr B t gp gm l1) ∧ Hid (l1 = [(72 : UInt8), 67, 1].take m) ∧ Hid (Kp B (some t) w1 wr)) (fun i _ => 3 - (intOf i).toNat)
  case atStart => exact ⟨0, _, Nat.zero_le _, rfl, HT, rfl, Kp.refl _ _ _⟩
  case round =>
    clear HT
    obtain ⟨m, l1, hm, rfl, HT, HE, HK⟩ := hrel
    by_cases k1 : m < 3
    · obtain ⟨u, hu⟩ : ∃ u, [(72 : UInt8), 67, 1][m]? = some u := ⟨_, List.getElem?_eq_getElem (show m < [(72 : UInt8), 67, 1].length from k1)⟩
      have e0 := ((HM.out m u hu).keep HK.out).1
      have HE1 : Hid (l1 ++ [u] = [(72 : UInt8), 67, 1].take (m + 1)) := by show _ = _; rw [HE.out, List.take_add_one, hu]; rfl
      clear hu HE
      go_wp2_with fail
      refine (octet_any B t gp gm l1 u _ wr HT.out rfl).mono ?_
      rintro e w3 ⟨hK, ⟨rfl, hT⟩ | ⟨rfl, hx⟩⟩
      · have HT3 : Hid (Tape w3 B t gp gm _) := hT
        have HK3 : Hid (Kp B (some t) w1 w3) := HK.out.trans hK
        clear hT hK HT HK e0
        go_wp2_with fail
        go_roundw
        case rel => exact ⟨m + 1, _, by omega, by go_num, HT3, HE1, HK3⟩
        case measure => simp [intOf]; omega
      · exact absurd hx (by rw [HE1.out]; have := List.length_take_le (m + 1) [(72 : UInt8), 67, 1]; omega)
    · obtain rfl : m = 3 := by omega
      have HT3 : Hid (Tape wr B t gp gm [72, 67, 1]) := by have h := HT.out; rw [HE.out] at h; exact h
      clear HE HT
      go_wp2_with fail
      refine (th_proto B t gp gm [72, 67, 1] xs ⟨gc, 0, none⟩ a len cap wr HT3.out (HP.out.keep HK.out) HL.out.symm hlen (HC.out.keep HK.out) (HS.out.keep HK.out) (fun v hv => ⟨(HF.out v hv).1, (HF.out v hv).2.1.keep HK.out, (HF.out v hv).2.2.1.keep HK.out, (HF.out v hv).2.2.2.1.keep HK.out, (HF.out v hv).2.2.2.2.keep HK.out⟩)).mono ?_
      rintro e w4 ⟨hK, ⟨rfl, hT⟩ | ⟨rfl, hx⟩⟩
      · go_wp2_with fail
        go_end0
        obtain ⟨⟨sv, h1, h2⟩, h3, h4⟩ := hT
        have hKK := HK.out.trans hK
        refine ⟨hKK.old' hBw HB1.out htt, .inl ⟨rfl, sv, h1, ?_, by rw [HI.out]; exact h3⟩⟩
        rw [HI.out]
        exact h2.mono hBw
      · exact ⟨rfl, (HK.out.trans hK).old' hBw HB1.out htt, .inr ⟨rfl, by rw [HI.out]; exact hx⟩⟩
end Go.Proofs.YtfkeklndcjkgcaaGreatDoor

/-
  OWN WORK. The program's Encode: the deferred call that catches the tape's end.
-/
namespace Go.Proofs.YtfkeklndcjkgcaaGreatDoor
open Go.RowKit
set_option linter.unusedVariables false
set_option linter.unusedSimpArgs false

def CH1 : List PanicEntry := [{ v := .iface 120 (.agg #[]), recovered := true }]

theorem ta_end (w : World) : (Instr.typeAssert (.iface 120 (.agg #[])) 20 120 true).run Tryz.prog w = .ok (.tuple #[.agg #[], .bool true]) w := by kernel_rfl
theorem ta_nil (w : World) : (Instr.typeAssert .nilIface 20 120 true).run Tryz.prog w = .ok (.tuple #[.agg #[], .bool false]) w := by kernel_rfl

set_option maxRecDepth 20000 in
set_option maxHeartbeats 2000000 in
theorem catch_end (w : World) :
    CallsD Tryz.prog 67 #[] (.panicking CH) w fun e u' w' => e = .returned (.tuple #[]) ∧ u' = .panicking CH1 ∧ Below w.heap.size w w' := by
  have ha := ta_end
  have hn := ta_nil
  refine callsD_of_wpS Tryz.func67 rfl fun c₀ cs hu => ?_
  apply wpS_seq
  apply wpS_region
  simp [wpOpsS, go_sem, recoverD, hu, Tryz.ntmps67, Exit.thenS, CH]
  refine wpS_of_wp ?_
  change Code.wp _ _ _ { tmps := #[.iface 120 (.agg #[]), undef, undef, .iface 120 (.agg #[]), undef, undef, undef, undef, undef, undef, undef, undef, undef, undef, undef, undef], defers := [] } _
  go_wp2
  exact ⟨rfl, .panicking CH1, rfl, .tuple #[], by simp [results, Tryz.results67], rfl, rfl, bw1 _ _⟩

set_option maxRecDepth 20000 in
set_option maxHeartbeats 2000000 in
theorem catch_idle (w : World) :
    CallsD Tryz.prog 67 #[] .returning w fun e u' w' => e = .returned (.tuple #[]) ∧ u' = .returning ∧ Below w.heap.size w w' := by
  have ha := ta_end
  have hn := ta_nil
  refine callsD_of_wpS Tryz.func67 rfl fun c₀ cs hu => ?_
  apply wpS_seq
  apply wpS_region
  simp [wpOpsS, go_sem, recoverD, hu, Tryz.ntmps67, Exit.thenS, CH]
  refine wpS_of_wp ?_
  change Code.wp _ _ _ { tmps := #[.nilIface, undef, undef, .nilIface, undef, undef, undef, undef, undef, undef, undef, undef, undef, undef, undef, undef], defers := [] } _
  go_wp2
  exact ⟨rfl, .returning, by cases c₀; simp_all, .tuple #[], by simp [results, Tryz.results67], rfl, rfl, bw1 _ _⟩

set_option maxRecDepth 20000 in
set_option maxHeartbeats 4000000 in
theorem run_any (t gp gm gc : Nat) (a : Option Addr) (len cap : Nat) (xs : List FC) (w0 w : World) (H0 : CodeAt w0 a xs) (hl : xs.length = len) (hx : ∀ x ∈ xs, FSm x.d) (hb : Below w0.heap.size w0 w) (ht : w0.heap.size ≤ t) (hc : w.heap[gc]? = some (CO (.slice a len cap))) (hT : w.heap[t]? = some (TO (.slice none 0 0) gp gm)) (hP : Parts w t gp gm) :
    Calls Tryz.prog 35 #[.pointer (some ⟨t, 0, none⟩), .pointer (some ⟨gc, 0, none⟩)] w fun e w' => Below w0.heap.size w0 w' ∧ ((e = .returned (.bool true) ∧ ∃ sv, w'.heap[t]? = some (TO sv gp gm) ∧ BRow w' w0.heap.size sv (imageL (xs.map FC.d)) ∧ (imageL (xs.map FC.d)).length ≤ 1000000) ∨ (e = .returned (.bool false) ∧ 1000000 < (imageL (xs.map FC.d)).length)) := by
  have HC : Hid (Calls _ _ _ _ _) := code_any t gp gm gc a len cap xs w0 w H0 hl hx hb ht hc hT hP
  have hmf := mkf
  clear H0 hl hx hb hc hT hP
  go_enter_defers Tryz.func35, Tryz.ntmps35
  go_wp2_with fail
  refine Calls.mono (show Calls _ _ _ _ _ from HC.out) ?_
  rintro e w2 ⟨hB, ⟨rfl, sv, h1, h2, h3⟩ | ⟨rfl, hx⟩⟩
  · go_wp2_with fail
    refine leaves_cons (f := 67) (args := #[]) (by simp) (by simp [go_sem]) ?_
    refine (catch_idle _).mono ?_
    rintro e u' w'' ⟨rfl, rfl, hb⟩
    refine ⟨_, results_tmp rfl _ _ _, hB.trans (hb.mono hB.size), .inl ⟨rfl, sv, blk_later hb h1, h2.later hb, h3⟩⟩
  · refine leaves_cons (f := 67) (args := #[]) (by simp) (by simp [go_sem]) ?_
    refine (catch_end _).mono ?_
    rintro e u' w'' ⟨rfl, rfl, hb⟩
    refine ⟨_, results_tmp rfl _ _ _, hB.trans (hb.mono hB.size), .inr ⟨rfl, hx⟩⟩
end Go.Proofs.YtfkeklndcjkgcaaGreatDoor
