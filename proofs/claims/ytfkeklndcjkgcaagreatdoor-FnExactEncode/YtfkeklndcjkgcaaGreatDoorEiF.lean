import Derived.Test.YtfkeklndcjkgcaaGreatDoorEiC
/-
  OWN WORK. The program's lists on a tape that is written. (Written by tools/genthr.py.)
-/
namespace Go.Proofs.YtfkeklndcjkgcaaGreatDoor
open Go.RowKit
attribute [local go_sem] run_store_float
set_option linter.unusedVariables false
set_option linter.unusedSimpArgs false

/-- A list whose cells stay while the tape is written. -/
def SlS {α : Type} (w : World) (B t k : Nat) (cells : α → List Value) (a : Option Addr) (xs : List α) : Prop :=
  ∀ i x, xs[i]? = some x → ∃ b off, a = some ⟨b, off, none⟩ ∧ ∀ j v, (cells x)[j]? = some v → Sc w B t ⟨b, off + i * k + j, none⟩ v
theorem SlS.keep {α : Type} {w w' : World} {B t k : Nat} {cells : α → List Value} {a : Option Addr} {xs : List α} (h : SlS w B t k cells a xs) (hK : Kp B (some t) w w') : SlS w' B t k cells a xs :=
  fun i x hx => by
    obtain ⟨b, off, h1, h2⟩ := h i x hx
    exact ⟨b, off, h1, fun j v hv => (h2 j v hv).keep hK⟩
theorem SlS.of {α : Type} {w0 w : World} {B t k : Nat} {cells : α → List Value} {a : Option Addr} {xs : List α} (h : SlA w0 k cells a xs) (hb : Below w0.heap.size w0 w) (hB : w0.heap.size ≤ B) (hw : B ≤ w.heap.size) (ht : w0.heap.size ≤ t) : SlS w B t k cells a xs :=
  fun i x hx => by
    obtain ⟨b, off, h1, h2, h3⟩ := h i x hx
    exact ⟨b, off, h1, fun j v hv => Sc.old (cell_later hb (h3 j v hv)) (Nat.lt_of_lt_of_le h2 hB) hw (by show b ≠ t; omega)⟩

set_option maxRecDepth 20000 in
set_option maxHeartbeats 4000000 in
theorem th_up (B t gp gm : Nat) (l : List UInt8) (xs : List UD) (p : Addr) (a : Option Addr) (n cap : Nat) (w : World) (h : Tape w B t gp gm l) (hp : Parts w t gp gm) (hn : n = xs.length) (hn2 : n ≤ 1048576) (hl : Sc w B t p (.slice a n cap)) (hs : SlS w B t 2 UD.cells a xs) :
    Calls Tryz.prog 112 #[.pointer (some ⟨t, 0, none⟩), .pointer (some p), MV 113 t] w (Wrote B t gp gm w (l ++ listL upL xs) (.tuple #[])) := by
  have HT : Hid (Tape w B t gp gm l) := h
  have HP : Hid (Parts w t gp gm) := hp
  have HL : Hid (Sc w B t p (.slice a n cap)) := hl
  have HS : Hid (SlS w B t 2 UD.cells a xs) := hs
  have HN : Hid (n = xs.length) := hn
  have e0 := hl.1
  clear h hp hl hs hn
  go_enter Tryz.func112, Tryz.ntmps112
  go_wp2_with fail
  refine (count_any B t gp gm l (n : Int) _ HT.out).mono ?_
  rintro e w2 ⟨hK, ⟨rfl, hT⟩ | ⟨rfl, hx⟩⟩
  rotate_left
  · exact ⟨rfl, hK, .inr ⟨rfl, wrote_len hx (b := xs.flatMap upL) (by unfold listL; rw [HN.out, List.append_assoc])⟩⟩
  have t1 := hT.reads
  have e1 := (HL.out.keep hK).1
  have HT2 : Hid (Tape w2 B t gp gm (l ++ numL (n : Int))) := hT
  have HK2 : Hid (Kp B (some t) w w2) := hK
  clear hT hK e0
  go_wp2_with fail
  clear t1 e1
  go_loopw [24] (fun i wr => ∃ (m : Nat) (l1 : List UInt8), m ≤ n ∧ i = .int .i64 m ∧ Hid (Tape wr B t gp gm l1) ∧ Hid (l1 ++ (xs.drop m).flatMap upL = l ++ listL upL xs) ∧ Hid (Kp B (some t) w wr)) (fun i _ => n - (intOf i).toNat)
  case atStart => exact ⟨0, _, Nat.zero_le _, rfl, HT2, by show _ = _; unfold listL; rw [HN.out, List.append_assoc]; rfl, HK2⟩
  case round =>
    clear HT2 HK2
    obtain ⟨m, l1, hm, rfl, HT1, HE, HK⟩ := hrel
    by_cases k1 : m < n
    · obtain ⟨x, hx⟩ : ∃ x, xs[m]? = some x := ⟨xs[m]'(by rw [← HN.out]; exact k1), by simp⟩
      obtain ⟨b, off, hab, hc⟩ := HS.out m x hx
      have e1 := (HL.out.keep HK.out).1
      rw [hab] at e1
      have HCX : Hid (∀ j v, (UD.cells x)[j]? = some v → Sc wr B t ⟨b, off + m * 2 + j, none⟩ v) := fun j v hv => (hc j v hv).keep HK.out
      have HPX : Hid (Parts wr t gp gm) := HP.out.keep HK.out
      have HE1 : Hid ((l1 ++ upL x) ++ (xs.drop (m + 1)).flatMap upL = l ++ listL upL xs) := by have h := HE.out; rw [flatMap_drop _ hx, ← List.append_assoc] at h; exact h
      skip
      clear hc hx HE hab
      go_wp2_with fail
      refine (up_any B t gp gm l1 x b (off + m * 2) wr HT1.out (HCX.out 0 _ rfl) (HCX.out 1 _ rfl)).mono ?_
      rintro e w3 ⟨hK, ⟨rfl, hT⟩ | ⟨rfl, hx⟩⟩
      · have HT3 : Hid (Tape w3 B t gp gm _) := hT
        have HK3 : Hid (Kp B (some t) w w3) := HK.out.trans hK
        clear hT hK HT1 HK e1
        go_wp2_with fail
        go_roundw
        case rel => exact ⟨m + 1, _, by omega, by go_num, HT3, HE1, HK3⟩
        case measure => simp [intOf]; omega
      · exact ⟨rfl, HK.out.trans hK, .inr ⟨rfl, wrote_len hx HE1.out⟩⟩
    · have HE1 : Hid (l1 = l ++ listL upL xs) := by
        have h := HE.out
        rw [fdrop_end (by rw [← HN.out]; omega), List.append_nil] at h
        exact h
      clear HE
      go_wp2_with fail
      go_end0
      exact ⟨HK.out, .inl ⟨rfl, by rw [← HE1.out]; exact HT1.out⟩⟩

set_option maxRecDepth 20000 in
set_option maxHeartbeats 4000000 in
theorem th_const (B t gp gm : Nat) (l : List UInt8) (xs : List VD) (p : Addr) (a : Option Addr) (n cap : Nat) (w : World) (h : Tape w B t gp gm l) (hp : Parts w t gp gm) (hn : n = xs.length) (hn2 : n ≤ 1048576) (hl : Sc w B t p (.slice a n cap)) (hs : SlS w B t 5 VD.cells a xs) (hx' : ∀ v ∈ xs, CSm v) :
    Calls Tryz.prog 114 #[.pointer (some ⟨t, 0, none⟩), .pointer (some p), MV 115 t] w (Wrote B t gp gm w (l ++ listL constL xs) (.tuple #[])) := by
  have HT : Hid (Tape w B t gp gm l) := h
  have HP : Hid (Parts w t gp gm) := hp
  have HL : Hid (Sc w B t p (.slice a n cap)) := hl
  have HS : Hid (SlS w B t 5 VD.cells a xs) := hs
  have HN : Hid (n = xs.length) := hn
  have e0 := hl.1
  clear h hp hl hs hn
  go_enter Tryz.func114, Tryz.ntmps114
  go_wp2_with fail
  refine (count_any B t gp gm l (n : Int) _ HT.out).mono ?_
  rintro e w2 ⟨hK, ⟨rfl, hT⟩ | ⟨rfl, hx⟩⟩
  rotate_left
  · exact ⟨rfl, hK, .inr ⟨rfl, wrote_len hx (b := xs.flatMap constL) (by unfold listL; rw [HN.out, List.append_assoc])⟩⟩
  have t1 := hT.reads
  have e1 := (HL.out.keep hK).1
  have HT2 : Hid (Tape w2 B t gp gm (l ++ numL (n : Int))) := hT
  have HK2 : Hid (Kp B (some t) w w2) := hK
  clear hT hK e0
  go_wp2_with fail
  clear t1 e1
  go_loopw [24] (fun i wr => ∃ (m : Nat) (l1 : List UInt8), m ≤ n ∧ i = .int .i64 m ∧ Hid (Tape wr B t gp gm l1) ∧ Hid (l1 ++ (xs.drop m).flatMap constL = l ++ listL constL xs) ∧ Hid (Kp B (some t) w wr)) (fun i _ => n - (intOf i).toNat)
  case atStart => exact ⟨0, _, Nat.zero_le _, rfl, HT2, by show _ = _; unfold listL; rw [HN.out, List.append_assoc]; rfl, HK2⟩
  case round =>
    clear HT2 HK2
    obtain ⟨m, l1, hm, rfl, HT1, HE, HK⟩ := hrel
    by_cases k1 : m < n
    · obtain ⟨x, hx⟩ : ∃ x, xs[m]? = some x := ⟨xs[m]'(by rw [← HN.out]; exact k1), by simp⟩
      obtain ⟨b, off, hab, hc⟩ := HS.out m x hx
      have e1 := (HL.out.keep HK.out).1
      rw [hab] at e1
      have HCX : Hid (∀ j v, (VD.cells x)[j]? = some v → Sc wr B t ⟨b, off + m * 5 + j, none⟩ v) := fun j v hv => (hc j v hv).keep HK.out
      have HPX : Hid (Parts wr t gp gm) := HP.out.keep HK.out
      have HE1 : Hid ((l1 ++ constL x) ++ (xs.drop (m + 1)).flatMap constL = l ++ listL constL xs) := by have h := HE.out; rw [flatMap_drop _ hx, ← List.append_assoc] at h; exact h
      have HCS : Hid (CSm x) := hx' x (List.mem_of_getElem? hx)
      clear hc hx HE hab
      go_wp2_with fail
      refine (value_any B t gp gm l1 x b (off + m * 5) wr HCS.out HT1.out HPX.out HCX.out).mono ?_
      rintro e w3 ⟨hK, ⟨rfl, hT⟩ | ⟨rfl, hx⟩⟩
      · have HT3 : Hid (Tape w3 B t gp gm _) := hT
        have HK3 : Hid (Kp B (some t) w w3) := HK.out.trans hK
        clear hT hK HT1 HK e1
        go_wp2_with fail
        go_roundw
        case rel => exact ⟨m + 1, _, by omega, by go_num, HT3, HE1, HK3⟩
        case measure => simp [intOf]; omega
      · exact ⟨rfl, HK.out.trans hK, .inr ⟨rfl, wrote_len hx HE1.out⟩⟩
    · have HE1 : Hid (l1 = l ++ listL constL xs) := by
        have h := HE.out
        rw [fdrop_end (by rw [← HN.out]; omega), List.append_nil] at h
        exact h
      clear HE
      go_wp2_with fail
      go_end0
      exact ⟨HK.out, .inl ⟨rfl, by rw [← HE1.out]; exact HT1.out⟩⟩

set_option maxRecDepth 20000 in
set_option maxHeartbeats 4000000 in
theorem th_ins (B t gp gm : Nat) (l : List UInt8) (xs : List ID) (p : Addr) (a : Option Addr) (n cap : Nat) (w : World) (h : Tape w B t gp gm l) (hp : Parts w t gp gm) (hn : n = xs.length) (hn2 : n ≤ 1048576) (hl : Sc w B t p (.slice a n cap)) (hs : SlS w B t 5 ID.cells a xs) :
    Calls Tryz.prog 116 #[.pointer (some ⟨t, 0, none⟩), .pointer (some p), MV 117 t] w (Wrote B t gp gm w (l ++ listL stepL xs) (.tuple #[])) := by
  have HT : Hid (Tape w B t gp gm l) := h
  have HP : Hid (Parts w t gp gm) := hp
  have HL : Hid (Sc w B t p (.slice a n cap)) := hl
  have HS : Hid (SlS w B t 5 ID.cells a xs) := hs
  have HN : Hid (n = xs.length) := hn
  have e0 := hl.1
  clear h hp hl hs hn
  go_enter Tryz.func116, Tryz.ntmps116
  go_wp2_with fail
  refine (count_any B t gp gm l (n : Int) _ HT.out).mono ?_
  rintro e w2 ⟨hK, ⟨rfl, hT⟩ | ⟨rfl, hx⟩⟩
  rotate_left
  · exact ⟨rfl, hK, .inr ⟨rfl, wrote_len hx (b := xs.flatMap stepL) (by unfold listL; rw [HN.out, List.append_assoc])⟩⟩
  have t1 := hT.reads
  have e1 := (HL.out.keep hK).1
  have HT2 : Hid (Tape w2 B t gp gm (l ++ numL (n : Int))) := hT
  have HK2 : Hid (Kp B (some t) w w2) := hK
  clear hT hK e0
  go_wp2_with fail
  clear t1 e1
  go_loopw [24] (fun i wr => ∃ (m : Nat) (l1 : List UInt8), m ≤ n ∧ i = .int .i64 m ∧ Hid (Tape wr B t gp gm l1) ∧ Hid (l1 ++ (xs.drop m).flatMap stepL = l ++ listL stepL xs) ∧ Hid (Kp B (some t) w wr)) (fun i _ => n - (intOf i).toNat)
  case atStart => exact ⟨0, _, Nat.zero_le _, rfl, HT2, by show _ = _; unfold listL; rw [HN.out, List.append_assoc]; rfl, HK2⟩
  case round =>
    clear HT2 HK2
    obtain ⟨m, l1, hm, rfl, HT1, HE, HK⟩ := hrel
    by_cases k1 : m < n
    · obtain ⟨x, hx⟩ : ∃ x, xs[m]? = some x := ⟨xs[m]'(by rw [← HN.out]; exact k1), by simp⟩
      obtain ⟨b, off, hab, hc⟩ := HS.out m x hx
      have e1 := (HL.out.keep HK.out).1
      rw [hab] at e1
      have HCX : Hid (∀ j v, (ID.cells x)[j]? = some v → Sc wr B t ⟨b, off + m * 5 + j, none⟩ v) := fun j v hv => (hc j v hv).keep HK.out
      have HPX : Hid (Parts wr t gp gm) := HP.out.keep HK.out
      have HE1 : Hid ((l1 ++ stepL x) ++ (xs.drop (m + 1)).flatMap stepL = l ++ listL stepL xs) := by have h := HE.out; rw [flatMap_drop _ hx, ← List.append_assoc] at h; exact h
      skip
      clear hc hx HE hab
      go_wp2_with fail
      refine (step_any B t gp gm l1 x b (off + m * 5) wr HT1.out (HCX.out 0 _ rfl) (HCX.out 1 _ rfl) (HCX.out 2 _ rfl) (HCX.out 3 _ rfl) (HCX.out 4 _ rfl)).mono ?_
      rintro e w3 ⟨hK, ⟨rfl, hT⟩ | ⟨rfl, hx⟩⟩
      · have HT3 : Hid (Tape w3 B t gp gm _) := hT
        have HK3 : Hid (Kp B (some t) w w3) := HK.out.trans hK
        clear hT hK HT1 HK e1
        go_wp2_with fail
        go_roundw
        case rel => exact ⟨m + 1, _, by omega, by go_num, HT3, HE1, HK3⟩
        case measure => simp [intOf]; omega
      · exact ⟨rfl, HK.out.trans hK, .inr ⟨rfl, wrote_len hx HE1.out⟩⟩
    · have HE1 : Hid (l1 = l ++ listL stepL xs) := by
        have h := HE.out
        rw [fdrop_end (by rw [← HN.out]; omega), List.append_nil] at h
        exact h
      clear HE
      go_wp2_with fail
      go_end0
      exact ⟨HK.out, .inl ⟨rfl, by rw [← HE1.out]; exact HT1.out⟩⟩

set_option maxRecDepth 20000 in
set_option maxHeartbeats 4000000 in
theorem th_named (B t gp gm : Nat) (l : List UInt8) (xs : List ND) (p : Addr) (a : Option Addr) (n cap : Nat) (w : World) (h : Tape w B t gp gm l) (hp : Parts w t gp gm) (hn : n = xs.length) (hn2 : n ≤ 1048576) (hl : Sc w B t p (.slice a n cap)) (hs : SlS w B t 4 ND.cells a xs) (hx' : ∀ v ∈ xs, v.s.size ≤ 1000000000) :
    Calls Tryz.prog 118 #[.pointer (some ⟨t, 0, none⟩), .pointer (some p), MV 119 t] w (Wrote B t gp gm w (l ++ listL namedL xs) (.tuple #[])) := by
  have HT : Hid (Tape w B t gp gm l) := h
  have HP : Hid (Parts w t gp gm) := hp
  have HL : Hid (Sc w B t p (.slice a n cap)) := hl
  have HS : Hid (SlS w B t 4 ND.cells a xs) := hs
  have HN : Hid (n = xs.length) := hn
  have e0 := hl.1
  clear h hp hl hs hn
  go_enter Tryz.func118, Tryz.ntmps118
  go_wp2_with fail
  refine (count_any B t gp gm l (n : Int) _ HT.out).mono ?_
  rintro e w2 ⟨hK, ⟨rfl, hT⟩ | ⟨rfl, hx⟩⟩
  rotate_left
  · exact ⟨rfl, hK, .inr ⟨rfl, wrote_len hx (b := xs.flatMap namedL) (by unfold listL; rw [HN.out, List.append_assoc])⟩⟩
  have t1 := hT.reads
  have e1 := (HL.out.keep hK).1
  have HT2 : Hid (Tape w2 B t gp gm (l ++ numL (n : Int))) := hT
  have HK2 : Hid (Kp B (some t) w w2) := hK
  clear hT hK e0
  go_wp2_with fail
  clear t1 e1
  go_loopw [24] (fun i wr => ∃ (m : Nat) (l1 : List UInt8), m ≤ n ∧ i = .int .i64 m ∧ Hid (Tape wr B t gp gm l1) ∧ Hid (l1 ++ (xs.drop m).flatMap namedL = l ++ listL namedL xs) ∧ Hid (Kp B (some t) w wr)) (fun i _ => n - (intOf i).toNat)
  case atStart => exact ⟨0, _, Nat.zero_le _, rfl, HT2, by show _ = _; unfold listL; rw [HN.out, List.append_assoc]; rfl, HK2⟩
  case round =>
    clear HT2 HK2
    obtain ⟨m, l1, hm, rfl, HT1, HE, HK⟩ := hrel
    by_cases k1 : m < n
    · obtain ⟨x, hx⟩ : ∃ x, xs[m]? = some x := ⟨xs[m]'(by rw [← HN.out]; exact k1), by simp⟩
      obtain ⟨b, off, hab, hc⟩ := HS.out m x hx
      have e1 := (HL.out.keep HK.out).1
      rw [hab] at e1
      have HCX : Hid (∀ j v, (ND.cells x)[j]? = some v → Sc wr B t ⟨b, off + m * 4 + j, none⟩ v) := fun j v hv => (hc j v hv).keep HK.out
      have HPX : Hid (Parts wr t gp gm) := HP.out.keep HK.out
      have HE1 : Hid ((l1 ++ namedL x) ++ (xs.drop (m + 1)).flatMap namedL = l ++ listL namedL xs) := by have h := HE.out; rw [flatMap_drop _ hx, ← List.append_assoc] at h; exact h
      have hz := hx' x (List.mem_of_getElem? hx)
      clear hc hx HE hab
      go_wp2_with fail
      refine (named_any' B t gp gm l1 x b (off + m * 4) wr HT1.out hz (HCX.out 0 _ rfl) (HCX.out 1 _ rfl) (HCX.out 2 _ rfl) (HCX.out 3 _ rfl)).mono ?_
      rintro e w3 ⟨hK, ⟨rfl, hT⟩ | ⟨rfl, hx⟩⟩
      · have HT3 : Hid (Tape w3 B t gp gm _) := hT
        have HK3 : Hid (Kp B (some t) w w3) := HK.out.trans hK
        clear hT hK HT1 HK e1
        go_wp2_with fail
        go_roundw
        case rel => exact ⟨m + 1, _, by omega, by go_num, HT3, HE1, HK3⟩
        case measure => simp [intOf]; omega
      · exact ⟨rfl, HK.out.trans hK, .inr ⟨rfl, wrote_len hx HE1.out⟩⟩
    · have HE1 : Hid (l1 = l ++ listL namedL xs) := by
        have h := HE.out
        rw [fdrop_end (by rw [← HN.out]; omega), List.append_nil] at h
        exact h
      clear HE
      go_wp2_with fail
      go_end0
      exact ⟨HK.out, .inl ⟨rfl, by rw [← HE1.out]; exact HT1.out⟩⟩
end Go.Proofs.YtfkeklndcjkgcaaGreatDoor

/-
  OWN WORK. The program's protos on a tape that is written. (Written by tools/genimg.py.)
-/
namespace Go.Proofs.YtfkeklndcjkgcaaGreatDoor
open Go.RowKit
attribute [local go_sem] run_store_float
set_option linter.unusedVariables false
set_option linter.unusedSimpArgs false

/-- A proto whose cells stay while the tape is written. -/
structure PS (w : World) (B t b o : Nat) (x : FC) : Prop where
  c : ∀ j v, x.cells[j]? = some v → Sc w B t ⟨b, o + j, none⟩ v
  us : SlS w B t 2 UD.cells x.au x.d.ups
  cs : SlS w B t 5 VD.cells x.ac x.d.consts
  is : SlS w B t 5 ID.cells x.ai x.d.ins
  ns : SlS w B t 4 ND.cells x.an x.d.named
theorem PS.keep {w w' : World} {B t b o : Nat} {x : FC} (h : PS w B t b o x) (hK : Kp B (some t) w w') : PS w' B t b o x :=
  ⟨fun j v hv => (h.c j v hv).keep hK, h.us.keep hK, h.cs.keep hK, h.is.keep hK, h.ns.keep hK⟩
theorem mkf (fn : Fn) (first cap : Array Value) (w : World) : (Instr.makeFunc fn first cap).run Tryz.prog w = .ok (.func fn first cap) w := rfl

set_option maxRecDepth 20000 in
set_option maxHeartbeats 4000000 in
theorem ups_any (B t gp gm : Nat) (l : List UInt8) (x : FC) (b o : Nat) (w : World) (h : Tape w B t gp gm l) (hp : Parts w t gp gm) (hx : FSm x.d) (hs : PS w B t b o x) :
    Calls Tryz.prog 60 #[.pointer (some ⟨t, 0, none⟩), .pointer (some ⟨b, o, none⟩)] w (Wrote B t gp gm w (l ++ listL upL x.d.ups) (.tuple #[])) := by
  have HT : Hid (Tape w B t gp gm l) := h
  have HP : Hid (Parts w t gp gm) := hp
  have HX : Hid (FSm x.d) := hx
  have HS : Hid (PS w B t b o x) := hs
  have hmf := mkf
  clear h hp hx hs
  go_enter Tryz.func60, Tryz.ntmps60
  go_wp2_with fail
  refine (th_up B t gp gm l x.d.ups ⟨b, o + 5, none⟩ x.au x.d.ups.length x.cu _ HT.out HP.out rfl (by have := HX.out.lu; omega) (HS.out.c 5 _ rfl) HS.out.us).mono ?_
  rintro e w2 ⟨hK, ⟨rfl, hT⟩ | ⟨rfl, hx⟩⟩
  · go_wp2_with fail
    go_end0
    exact ⟨hK, .inl ⟨rfl, hT⟩⟩
  · exact ⟨rfl, hK, .inr ⟨rfl, hx⟩⟩

set_option maxRecDepth 20000 in
set_option maxHeartbeats 4000000 in
theorem consts_any (B t gp gm : Nat) (l : List UInt8) (x : FC) (b o : Nat) (w : World) (h : Tape w B t gp gm l) (hp : Parts w t gp gm) (hx : FSm x.d) (hs : PS w B t b o x) :
    Calls Tryz.prog 61 #[.pointer (some ⟨t, 0, none⟩), .pointer (some ⟨b, o, none⟩)] w (Wrote B t gp gm w (l ++ listL constL x.d.consts) (.tuple #[])) := by
  have HT : Hid (Tape w B t gp gm l) := h
  have HP : Hid (Parts w t gp gm) := hp
  have HX : Hid (FSm x.d) := hx
  have HS : Hid (PS w B t b o x) := hs
  have hmf := mkf
  clear h hp hx hs
  go_enter Tryz.func61, Tryz.ntmps61
  go_wp2_with fail
  refine (th_const B t gp gm l x.d.consts ⟨b, o + 6, none⟩ x.ac x.d.consts.length x.cc _ HT.out HP.out rfl (by have := HX.out.lc; omega) (HS.out.c 6 _ rfl) HS.out.cs HX.out.c).mono ?_
  rintro e w2 ⟨hK, ⟨rfl, hT⟩ | ⟨rfl, hx⟩⟩
  · go_wp2_with fail
    go_end0
    exact ⟨hK, .inl ⟨rfl, hT⟩⟩
  · exact ⟨rfl, hK, .inr ⟨rfl, hx⟩⟩

set_option maxRecDepth 20000 in
set_option maxHeartbeats 4000000 in
theorem steps_any (B t gp gm : Nat) (l : List UInt8) (x : FC) (b o : Nat) (w : World) (h : Tape w B t gp gm l) (hp : Parts w t gp gm) (hx : FSm x.d) (hs : PS w B t b o x) :
    Calls Tryz.prog 62 #[.pointer (some ⟨t, 0, none⟩), .pointer (some ⟨b, o, none⟩)] w (Wrote B t gp gm w (l ++ listL stepL x.d.ins) (.tuple #[])) := by
  have HT : Hid (Tape w B t gp gm l) := h
  have HP : Hid (Parts w t gp gm) := hp
  have HX : Hid (FSm x.d) := hx
  have HS : Hid (PS w B t b o x) := hs
  have hmf := mkf
  clear h hp hx hs
  go_enter Tryz.func62, Tryz.ntmps62
  go_wp2_with fail
  refine (th_ins B t gp gm l x.d.ins ⟨b, o + 7, none⟩ x.ai x.d.ins.length x.ci _ HT.out HP.out rfl (by have := HX.out.li; omega) (HS.out.c 7 _ rfl) HS.out.is).mono ?_
  rintro e w2 ⟨hK, ⟨rfl, hT⟩ | ⟨rfl, hx⟩⟩
  · go_wp2_with fail
    go_end0
    exact ⟨hK, .inl ⟨rfl, hT⟩⟩
  · exact ⟨rfl, hK, .inr ⟨rfl, hx⟩⟩

set_option maxRecDepth 20000 in
set_option maxHeartbeats 4000000 in
theorem names_any (B t gp gm : Nat) (l : List UInt8) (x : FC) (b o : Nat) (w : World) (h : Tape w B t gp gm l) (hp : Parts w t gp gm) (hx : FSm x.d) (hs : PS w B t b o x) :
    Calls Tryz.prog 63 #[.pointer (some ⟨t, 0, none⟩), .pointer (some ⟨b, o, none⟩)] w (Wrote B t gp gm w (l ++ listL namedL x.d.named) (.tuple #[])) := by
  have HT : Hid (Tape w B t gp gm l) := h
  have HP : Hid (Parts w t gp gm) := hp
  have HX : Hid (FSm x.d) := hx
  have HS : Hid (PS w B t b o x) := hs
  have hmf := mkf
  clear h hp hx hs
  go_enter Tryz.func63, Tryz.ntmps63
  go_wp2_with fail
  refine (th_named B t gp gm l x.d.named ⟨b, o + 8, none⟩ x.an x.d.named.length x.cn _ HT.out HP.out rfl (by have := HX.out.ln; omega) (HS.out.c 8 _ rfl) HS.out.ns (fun v hv => by have := HX.out.n v hv; omega)).mono ?_
  rintro e w2 ⟨hK, ⟨rfl, hT⟩ | ⟨rfl, hx⟩⟩
  · go_wp2_with fail
    go_end0
    exact ⟨hK, .inl ⟨rfl, hT⟩⟩
  · exact ⟨rfl, hK, .inr ⟨rfl, hx⟩⟩
end Go.Proofs.YtfkeklndcjkgcaaGreatDoor
