import Derived.Test.YtfkeklndcjkgcaaGreatDoorEDat
import Derived.Test.YtfkeklndcjkgcaaGreatDoorCsP
import Derived.Test.YtfkeklndcjkgcaaGreatDoorESpD
/-
  OWN WORK. What is known of a code of the right shape.
-/
namespace Go.Proofs.YtfkeklndcjkgcaaGreatDoor
open Go.RowKit
set_option linter.unusedVariables false
set_option linter.unusedSimpArgs false

theorem csm_of {v : VD} (h : constB v = true) (ho : v.ok) : CSm v := by
  simp only [constB, Bool.and_eq_true] at h
  obtain ⟨⟨h1, h2⟩, h3⟩ := h
  unfold vok at h1
  refine ⟨?_, ?_, ho.1, ?_⟩
  · repeat' split at h1
    all_goals first
      | (simp_all; done)
      | omega
  · intro h4
    simp only [h4] at h1
    simp at h1
    omega
  · intro hk
    rw [if_pos hk] at h3
    simpa using h3
theorem mem_le_sum : ∀ (l : List Nat) (x : Nat), x ∈ l → x ≤ l.sum
  | y :: l, x, h => by
    simp only [List.sum_cons]
    rcases List.mem_cons.1 h with rfl | h
    · omega
    · have := mem_le_sum l x h; omega
theorem named_of {f : FD} {q : Nat} {v : ND} (h : namedB f (0 + q) v = true) : q < 500 ∧ v.s.size ≤ 40 := by
  unfold namedB inR at h
  simp only [Bool.and_eq_true, decide_eq_true_eq] at h
  obtain ⟨⟨⟨⟨⟨h1, h2⟩, _⟩, _⟩, _⟩, _⟩ := h
  constructor <;> omega
theorem fsm_of {c : List FD} (H : ∀ f ∈ c, f.ok) (h0 : (partsV c).1 = 0) : ∀ f ∈ c, FSm f := by
  obtain ⟨h1, h2, h3, h4, _⟩ := parts_ok h0
  intro f hf
  obtain ⟨p, hp⟩ := List.getElem?_of_mem hf
  have a := fp_none h2 p f hp
  have b := fp_none h3 p f hp
  have d := fp_none h4 p f hp
  unfold na0 at d
  unfold co0 at b
  unfold hd0 at a
  split at a
  case isFalse => cases a
  rename_i hh
  simp only [headB, inR, Bool.and_eq_true, decide_eq_true_eq] at hh
  have hln : f.named.length ≤ 500 := by
    have key : ∀ q, q < f.named.length → q < 500 := by
      intro q hq
      exact (named_of (ff_none d q _ (List.getElem?_eq_getElem hq))).1
    have := key (f.named.length - 1)
    omega
  have hli : f.ins.length ≤ 6000 := by
    have hs := mem_le_sum (c.map fun f => f.ins.length) f.ins.length (List.mem_map.2 ⟨f, hf, rfl⟩)
    unfold badSize total at h1
    omega
  refine ⟨by omega, by omega, by omega, hli, hln, ?_, ?_⟩
  · intro v hv
    obtain ⟨q, hq⟩ := List.getElem?_of_mem hv
    exact csm_of (ff_none b q v hq) ((H f hf).c v hv)
  · intro v hv
    obtain ⟨q, hq⟩ := List.getElem?_of_mem hv
    exact (named_of (ff_none d q v hq)).2
end Go.Proofs.YtfkeklndcjkgcaaGreatDoor

/-
  OWN WORK. The specification's Encode.
-/
namespace Go.Proofs.YtfkeklndcjkgcaaGreatDoor
open Go.RowKit
attribute [local go_sem] run_store_float
set_option linter.unusedVariables false
set_option linter.unusedSimpArgs false

theorem eshape_code0 {c : List FD} {p i : Int} (h : shapeV c = (0, p, i)) : p = 0 ∧ i = 0 ∧ (partsV c).1 = 0 := by
  by_cases hp : (partsV c).1 = 0
  · unfold shapeV at h
    rw [if_pos hp] at h
    unfold fnsV at h
    repeat' split at h
    all_goals first
      | (simp at h; done)
      | (simp at h; exact ⟨h.1.symm, h.2.symm, hp⟩)
  · rw [shape_parts hp] at h
    rw [h] at hp
    exact absurd rfl hp
theorem protos_drop {xs : List FC} {m : Nat} {f : FC} (h : xs[m]? = some f) : ((xs.drop m).map FC.d).flatMap protoL = protoL f.d ++ ((xs.drop (m + 1)).map FC.d).flatMap protoL := by
  obtain ⟨hlt, he⟩ := List.getElem?_eq_some_iff.1 h
  rw [List.drop_eq_getElem_cons hlt, he]
  simp
theorem brow_mark {w : World} {g B : Nat} (h : w.heap[g]? = some (.cells #[.int .u8 72, .int .u8 67, .int .u8 1] 5)) (hB : B ≤ g) : BRow w B (.slice (some ⟨g, 0, none⟩) 3 3) [72, 67, 1] := by
  refine ⟨rfl, .inr ⟨g, 3, _, rfl, hB, h, ?_⟩⟩
  have : 3 ≤ maxLen := by unfold maxLen; omega
  simp [Lib.byteCells, this]

set_option maxRecDepth 20000 in
set_option maxHeartbeats 8000000 in
theorem senc_any (a : Option Addr) (len cap : Nat) (xs : List FC) (w : World) (H0 : CodeAt w a xs) (hl : xs.length = len) :
    Calls Tryz.prog 11 #[.agg #[.slice a len cap]] w fun e w' => (∃ sv, e = .returned sv ∧ BRow w' w.heap.size sv (encV (xs.map FC.d))) ∧ Below w.heap.size w w' := by
  have hlen : len ≤ 1048576 := by rw [← hl]; exact H0.len
  have H : Hid (CodeAt w a xs) := H0
  have HL : Hid (xs.length = len) := hl
  obtain ⟨cs, hcs⟩ : ∃ cs, cs = xs.map FC.d := ⟨_, rfl⟩
  have HM : Hid (cs = xs.map FC.d) := hcs
  rw [← hcs]
  clear H0 hl hcs
  go_enter Tryz.func11, Tryz.ntmps11
  go_wp2_with fail
  refine (shape_any a len cap xs _ (H.out.later (bw1 _ _)) HL.out).mono ?_
  rw [← HM.out]
  rintro e w1 ⟨rfl, hx⟩
  have B0 : Hid (w1.heap[w.heap.size]? = some (CO (.slice a len cap))) := blk_later hx (blk_new _ _)
  have hB : Below w.heap.size w w1 := (bw1 _ _).trans (hx.mono (by simp))
  clear hx
  obtain ⟨⟨pc, pp, pi⟩, hpv⟩ : ∃ t, t = shapeV cs := ⟨_, rfl⟩
  rw [← hpv]
  simp only [F3V]
  by_cases hp0 : pc = 0
  · subst hp0
    obtain ⟨rfl, rfl, h0⟩ := eshape_code0 hpv.symm
    have HV : Hid (encV cs = if (imageL cs).length ≤ 1000000 then imageL cs else []) := by show encV cs = _; unfold encV; simp [hpv.symm]
    have HS : Hid (∀ f ∈ cs, FSm f) := fsm_of (by rw [HM.out]; intro f hf; obtain ⟨x, hx, rfl⟩ := List.mem_map.1 hf; exact H.out.ok x hx) h0
    clear hpv h0
    have hy := bw2 w1 (FO 0 0 0) (.cells #[.int .u8 72, .int .u8 67, .int .u8 1] 5)
    have a0 : ((w1.alloc (FO 0 0 0)).alloc (.cells #[.int .u8 72, .int .u8 67, .int .u8 1] 5)).cell? ⟨w.heap.size, 0, none⟩ = some (.slice a len cap) := by rw [blk_cell (blk_later hy B0.out)]; rfl
    go_wp2_with fail
    refine (snum_any w.heap.size _ [72, 67, 1] (len : Int) _ (brow_mark (blk_newn (by simp) _) (by have := hB.size; omega)) (by simp) (by have := hB.size; simp; omega)).mono ?_
    rintro e w3 ⟨⟨sv3, rfl, h3⟩, hK3⟩
    have HR3 : Hid (BRow w3 w.heap.size sv3 ([72, 67, 1] ++ numL (len : Int))) := h3
    have HK3 : Hid (Kp w.heap.size none w w3) := (Kp.of_below (hB.trans (hy.mono hB.size))).trans hK3
    have B3 : Hid (w3.heap[w.heap.size]? = some (CO (.slice a len cap))) := hK3.blk (blk_later hy B0.out) (by decide) (by simp)
    have a1 : w3.cell? ⟨w.heap.size, 0, none⟩ = some (.slice a len cap) := by rw [blk_cell B3.out]; rfl
    have HE3 : Hid ([72, 67, 1] ++ numL (len : Int) ++ ((xs.drop 0).map FC.d).flatMap protoL = imageL cs) := by
      show _ = _
      rw [List.drop_zero, ← HM.out, List.append_assoc]
      unfold imageL listL
      rw [HM.out, List.length_map, HL.out]
    have hl3 : ([72, 67, 1] ++ numL (len : Int)).length ≤ 1000000 := by have := numL_le (len : Int); simp only [List.length_append, List.length_cons, List.length_nil]; omega
    clear h3 hK3 hy a0 B0 B3 hB
    go_wp2_with fail
    clear a1
    go_loopw [4, 21] (fun o i wr => ∃ (m : Nat) (sv2 : Value) (l2 : List UInt8), m ≤ len ∧ i = .int .i64 m ∧ sv2 = o ∧ Hid (BRow wr w.heap.size sv2 l2) ∧ l2.length ≤ 1000000 ∧ Hid (l2 ++ ((xs.drop m).map FC.d).flatMap protoL = imageL cs) ∧ Hid (Kp w.heap.size none w wr)) (fun _ i _ => len - (intOf i).toNat)
    case atStart => exact ⟨0, _, _, Nat.zero_le _, rfl, rfl, HR3, hl3, HE3, HK3⟩
    case round =>
      clear HR3 hl3 HE3 HK3
      obtain ⟨m, sv2, l2, hm, rfl, rfl, HR, hl2, HE, HK⟩ := hrel
      by_cases q : m < len
      · obtain ⟨f, hf⟩ : ∃ f, xs[m]? = some f := ⟨xs[m]'(by rw [HL.out]; exact q), by simp⟩
        obtain ⟨b, off, rfl, _, hc⟩ := H.out.nine hf
        have hbo : Below w.heap.size w wr := HK.out.below (Nat.le_refl _) (Nat.le_refl _)
        obtain ⟨c0, c1, c2, c3, c4, c5, c6, c7, c8⟩ := hc.later hbo
        have HLI : Hid (f.lie w) := H.out.lie f (List.mem_of_getElem? hf)
        have HFS : Hid (FSm f.d) := HS.out f.d (by rw [HM.out]; exact List.mem_map.2 ⟨f, List.mem_of_getElem? hf, rfl⟩)
        have HE2 : Hid (l2 ++ protoL f.d ++ ((xs.drop (m + 1)).map FC.d).flatMap protoL = imageL cs) := by have h := HE.out; rw [protos_drop hf, ← List.append_assoc] at h; exact h
        obtain ⟨wb, hwb, hy, _, _⟩ := newblk wr (PO f)
        have hKb : Kp w.heap.size none w wb := HK.out.trans (Kp.of_below hy)
        have hob := hbo.trans (hy.mono hbo.size)
        have HRb : Hid (BRow wb w.heap.size sv2 l2) := HR.out.later hy
        clear hf hc HE HR HK hbo
        go_wp2_with fail
        rw [← hwb]
        refine (sproto_any w.heap.size sv2 l2 f w wb HRb.out hl2 hob.size HFS.out HLI.out (Nat.le_refl _) hob).mono ?_
        rintro e w4 ⟨⟨sv4, rfl, h4⟩, hK4⟩
        obtain ⟨ax, cx, rfl⟩ := h4.val
        have HR4 : Hid (BRow w4 w.heap.size _ (l2 ++ protoL f.d)) := h4
        have HK4 : Hid (Kp w.heap.size none w w4) := hKb.trans hK4
        obtain ⟨L4, hL4⟩ : ∃ n, n = (l2 ++ protoL f.d).length := ⟨_, rfl⟩
        have HL4 : Hid ((l2 ++ protoL f.d).length = L4) := hL4.symm
        have hb4 : L4 ≤ 9000000 := by have := protoL_le HFS.out; rw [hL4, List.length_append]; omega
        rw [← hL4] at HR4 ⊢
        clear h4 hK4 hKb hob hy hwb HRb c0 c1 c2 c3 c4 c5 c6 c7 c8 hL4
        by_cases k5 : 1000000 < L4
        · have k6 : (1000000 : Int) < (L4 : Int) := by omega
          have HV2 : Hid (encV cs = []) := by
            show _ = _
            rw [HV.out, if_neg]
            rw [← HE2.out, List.length_append, HL4.out]
            omega
          go_wp2_with fail
          go_ret
          exact ⟨⟨_, rfl, by rw [HV2.out]; exact BRow.nil _ _⟩, HK4.out.below (Nat.le_refl _) (Nat.le_refl _)⟩
        · have k6 : ¬ (1000000 : Int) < (L4 : Int) := by omega
          go_wp2_with fail
          go_roundw
          case rel => exact ⟨m + 1, _, _, by omega, by go_num, rfl, HR4, by rw [HL4.out]; omega, HE2, HK4⟩
          case measure => simp [intOf]; omega
      · have HV2 : Hid (encV cs = l2) := by
          have h := HE.out
          rw [List.drop_of_length_le (by rw [HL.out]; omega)] at h
          show _ = _
          have h' : l2 = imageL cs := by simpa using h
          rw [HV.out, ← h', if_pos hl2]
        clear HE
        go_wp2_with fail
        go_ret
        exact ⟨⟨_, rfl, by rw [HV2.out]; exact HR.out⟩, HK.out.below (Nat.le_refl _) (Nat.le_refl _)⟩
  · have HV : Hid (encV cs = []) := by
      show encV cs = []
      unfold encV
      rw [if_neg (by rw [← hpv]; intro h; simp at h; exact hp0 h.1.1)]
    go_wp2_with fail
    go_ret
    exact ⟨⟨_, rfl, by rw [HV.out]; exact BRow.nil _ _⟩, hB.trans ((bw1 _ _).mono hB.size)⟩
end Go.Proofs.YtfkeklndcjkgcaaGreatDoor
