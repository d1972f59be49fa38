/-
  OWN WORK. Codes: the laws' look at sizes of protos.
-/
import Derived.Test.YtmicnjphlakoaaaGreatDoorCSz
import Derived.Test.YtmicnjphlakoaaaGreatDoorCSpU
namespace Go.Proofs.YtmicnjphlakoaaaGreatDoor
open Go.RowKit
attribute [local go_sem] run_store_float
set_option linter.unusedVariables false
set_option linter.unusedSimpArgs false

/-- What is known of a proto's data as it comes in. -/
structure FD.raw (f : FD) : Prop where
  name : f.name.size ≤ maxLen
  lu : f.ups.length ≤ maxLen
  lc : f.consts.length ≤ maxLen
  li : f.ins.length ≤ maxLen
  ln : f.named.length ≤ maxLen
  c : ∀ v ∈ f.consts, v.ok
  n : ∀ v ∈ f.named, v.s.size ≤ maxLen
def szF (f : FD) : Nat := f.ups.length + f.consts.length + f.ins.length + f.named.length

abbrev LO (f : FC) : Obj := .cells #[.string f.d.name, .int .i64 f.d.line, .int .i64 f.d.params, .bool f.d.rest, .int .i64 f.d.regs, .slice f.au f.d.ups.length f.cu, .slice f.ac f.d.consts.length f.cc, .slice f.ai f.d.ins.length f.ci, .slice f.an f.d.named.length f.cn] 60

set_option maxRecDepth 20000 in
set_option maxHeartbeats 4000000 in
theorem szp_any (f : FC) (l : Int) (w : World) (hlie : f.lie w) (raw : f.d.raw) (h0 : 0 ≤ l) (h1 : l ≤ 1048576) :
    Calls Tryz.prog 18 #[PV f, .int .i64 l] w fun e w' => (∃ r, e = .returned (.int .i64 r) ∧ (r = -1 ∨ (0 ≤ r ∧ r ≤ l - szF f.d))) ∧ Below w.heap.size w w' := by
  have HLI : Hid (f.lie w) := hlie
  have hnm := raw.name
  have HRW : Hid f.d.raw := raw
  unfold maxLen at hnm
  clear hlie raw
  by_cases g1 : l - f.d.name.size < 0
  · go_enter Tryz.func18, Tryz.ntmps18
    go_wp2_with fail
    go_ret
    exact ⟨⟨-1, rfl, .inl rfl⟩, bw1 _ _⟩
  go_enter Tryz.func18, Tryz.ntmps18
  go_wp2_with fail
  refine (szus_any _ _ _ _ _ HRW.out.lu (by omega) (by omega)).mono ?_
  rintro e w1 ⟨⟨r1, rfl, hr1⟩, hx⟩
  have B : Hid (w1.heap[w.heap.size]? = some (LO f)) := blk_later hx (blk_new _ _)
  have hB : Below w.heap.size w w1 := (bw1 _ _).trans (hx.mono (by simp))
  clear hx
  rcases hr1 with rfl | ⟨hs1, ht1⟩
  · go_wp2_with fail
    go_ret
    exact ⟨⟨-1, rfl, .inl rfl⟩, hB⟩
  have p6 : w1.cell? ⟨w.heap.size, 6, none⟩ = some (.slice f.ac f.d.consts.length f.cc) := by rw [blk_cell B.out]; rfl
  go_wp2_with fail
  refine (szvs_any _ _ _ f.d.consts _ _ rfl (HLI.out.later hB).c HRW.out.c HRW.out.lc (by omega) (by omega)).mono ?_
  rintro e w2 ⟨⟨r2, rfl, hr2⟩, hx⟩
  replace B : Hid _ := blk_later hx B.out
  replace hB := hB.trans (hx.mono hB.size)
  clear hx p6
  rcases hr2 with rfl | ⟨hs2, ht2⟩
  · go_wp2_with fail
    go_ret
    exact ⟨⟨-1, rfl, .inl rfl⟩, hB⟩
  have p7 : w2.cell? ⟨w.heap.size, 7, none⟩ = some (.slice f.ai f.d.ins.length f.ci) := by rw [blk_cell B.out]; rfl
  go_wp2_with fail
  refine (szis_any _ _ _ _ _ HRW.out.li (by omega) (by omega)).mono ?_
  rintro e w3 ⟨⟨r3, rfl, hr3⟩, hx⟩
  replace B : Hid _ := blk_later hx B.out
  replace hB := hB.trans (hx.mono hB.size)
  clear hx p7
  rcases hr3 with rfl | ⟨hs3, ht3⟩
  · go_wp2_with fail
    go_ret
    exact ⟨⟨-1, rfl, .inl rfl⟩, hB⟩
  have p8 : w3.cell? ⟨w.heap.size, 8, none⟩ = some (.slice f.an f.d.named.length f.cn) := by rw [blk_cell B.out]; rfl
  go_wp2_with fail
  refine (szns_any _ _ _ f.d.named _ _ rfl (HLI.out.later hB).n HRW.out.n HRW.out.ln (by omega) (by omega)).mono ?_
  rintro e w4 ⟨⟨r4, rfl, hr4⟩, hx⟩
  replace B : Hid _ := blk_later hx B.out
  replace hB := hB.trans (hx.mono hB.size)
  clear hx p8
  rcases hr4 with rfl | ⟨hs4, ht4⟩
  · go_wp2_with fail
    go_ret
    exact ⟨⟨-1, rfl, .inl rfl⟩, hB⟩
  go_wp2_with fail
  go_ret
  exact ⟨⟨r4, rfl, .inr ⟨hs4, by unfold szF; omega⟩⟩, hB⟩

def szL (xs : List FC) : Nat := (xs.map fun x => szF x.d).sum
theorem szL_take {xs : List FC} {m : Nat} {f : FC} (h : xs[m]? = some f) : szL (xs.take (m + 1)) = szL (xs.take m) + szF f.d := by
  unfold szL
  rw [List.take_add_one, h]
  simp

set_option maxRecDepth 20000 in
set_option maxHeartbeats 4000000 in
theorem szps_any (a : Option Addr) (len cap : Nat) (xs : List FC) (l : Int) (w : World) (hl : xs.length = len) (hp : SlA w 9 FC.cells a xs) (hlie : ∀ x ∈ xs, x.lie w) (raw : ∀ x ∈ xs, x.d.raw) (hlm : len ≤ maxLen) (h0 : 0 ≤ l) (h1 : l ≤ 1048576) :
    Calls Tryz.prog 10 #[.slice a len cap, .int .i64 l] w fun e w' => (∃ r, e = .returned (.int .i64 r) ∧ (r = -1 ∨ (0 ≤ r ∧ r ≤ l - len - szL xs))) ∧ Below w.heap.size w w' := by
  unfold maxLen at hlm
  have HP : Hid (SlA w 9 FC.cells a xs) := hp
  have HL : Hid (xs.length = len) := hl
  have HLI : Hid (∀ x ∈ xs, x.lie w) := hlie
  have HRW : Hid (∀ x ∈ xs, x.d.raw) := raw
  clear hp hl hlie raw
  by_cases g1 : l - len < 0
  · go_enter Tryz.func10, Tryz.ntmps10
    go_wp2_with fail
    go_ret
    exact ⟨⟨-1, rfl, .inl rfl⟩, Below.refl _ _⟩
  · go_enter Tryz.func10, Tryz.ntmps10
    go_wp2_with fail
    go_loopw [1, 5] (fun lf i wr => ∃ (m : Nat) (v : Int), m ≤ len ∧ i = .int .i64 m ∧ lf = .int .i64 v ∧ 0 ≤ v ∧ v ≤ 1048576 ∧ Hid (v ≤ l - len - szL (xs.take m)) ∧ Below w.heap.size w wr) (fun _ i _ => len - (intOf i).toNat)
    case atStart => exact ⟨0, _, Nat.zero_le _, rfl, rfl, by omega, by omega, by show _ ≤ _; simp [szL], Below.refl _ _⟩
    case round =>
      obtain ⟨m, v, hm, rfl, rfl, hv0, hv1, HV, hB⟩ := hrel
      by_cases k1 : m < len
      · obtain ⟨f, hf⟩ : ∃ f, xs[m]? = some f := ⟨xs[m]'(by rw [HL.out]; exact k1), by simp⟩
        obtain ⟨b, off, rfl, hb, hc⟩ := HP.out m f hf
        have hmem := List.mem_of_getElem? hf
        have HFL : Hid (f.lie w) := HLI.out f hmem
        have HFR : Hid f.d.raw := HRW.out f hmem
        have HT : Hid (szL (xs.take (m + 1)) = szL (xs.take m) + szF f.d) := szL_take hf
        have c0 : wr.cell? ⟨b, off + m * 9, none⟩ = some (.string f.d.name) := cell_later hB (hc 0 _ rfl)
        have c1 : wr.cell? ⟨b, off + m * 9 + 1, none⟩ = some (.int .i64 f.d.line) := cell_later hB (hc 1 _ rfl)
        have c2 : wr.cell? ⟨b, off + m * 9 + 2, none⟩ = some (.int .i64 f.d.params) := cell_later hB (hc 2 _ rfl)
        have c3 : wr.cell? ⟨b, off + m * 9 + 3, none⟩ = some (.bool f.d.rest) := cell_later hB (hc 3 _ rfl)
        have c4 : wr.cell? ⟨b, off + m * 9 + 4, none⟩ = some (.int .i64 f.d.regs) := cell_later hB (hc 4 _ rfl)
        have c5 : wr.cell? ⟨b, off + m * 9 + 5, none⟩ = some (.slice f.au f.d.ups.length f.cu) := cell_later hB (hc 5 _ rfl)
        have c6 : wr.cell? ⟨b, off + m * 9 + 6, none⟩ = some (.slice f.ac f.d.consts.length f.cc) := cell_later hB (hc 6 _ rfl)
        have c7 : wr.cell? ⟨b, off + m * 9 + 7, none⟩ = some (.slice f.ai f.d.ins.length f.ci) := cell_later hB (hc 7 _ rfl)
        have c8 : wr.cell? ⟨b, off + m * 9 + 8, none⟩ = some (.slice f.an f.d.named.length f.cn) := cell_later hB (hc 8 _ rfl)
        clear hf hc hb hmem
        go_wp2_with fail
        refine (szp_any f v _ (HFL.out.later hB) HFR.out hv0 hv1).mono ?_
        rintro e w1 ⟨⟨r, rfl, hr⟩, hx⟩
        replace hB := hB.trans (hx.mono hB.size)
        clear hx c0 c1 c2 c3 c4 c5 c6 c7 c8
        rcases hr with rfl | ⟨hr0, hr1⟩
        · go_wp2_with fail
          go_ret
          exact ⟨⟨-1, rfl, .inl rfl⟩, hB⟩
        · have HV1 : Hid (r ≤ l - len - szL (xs.take (m + 1))) := by show r ≤ _; have h1 := HV.out; have h2 := HT.out; omega
          have hr2 : r ≤ 1048576 := by omega
          clear hr1
          go_wp2_with fail
          go_roundw
          case rel => exact ⟨m + 1, r, by omega, by go_num, rfl, by omega, hr2, HV1, hB⟩
          case measure => simp [intOf]; omega
      · have hr : v ≤ l - len - szL xs := by have h := HV.out; rw [List.take_of_length_le (by rw [HL.out]; omega)] at h; exact h
        have HR : Hid (v ≤ l - len - szL xs) := hr
        clear hr
        go_wp2_with fail
        go_ret
        exact ⟨⟨v, rfl, .inr ⟨hv0, HR.out⟩⟩, hB⟩

set_option maxHeartbeats 1000000 in
theorem szc_any (a : Option Addr) (len cap : Nat) (xs : List FC) (l : Int) (w : World) (hl : xs.length = len) (hp : SlA w 9 FC.cells a xs) (hlie : ∀ x ∈ xs, x.lie w) (raw : ∀ x ∈ xs, x.d.raw) (hlm : len ≤ maxLen) (h0 : 0 ≤ l) (h1 : l ≤ 1048576) :
    Calls Tryz.prog 4 #[.agg #[.slice a len cap], .int .i64 l] w fun e w' => (∃ r, e = .returned (.int .i64 r) ∧ (r = -1 ∨ (0 ≤ r ∧ r ≤ l - len - szL xs))) ∧ Below w.heap.size w w' := by
  have HP : Hid (SlA w 9 FC.cells a xs) := hp
  have HLI : Hid (∀ x ∈ xs, x.lie w) := hlie
  clear hp hlie
  go_enter Tryz.func4, Tryz.ntmps4
  go_wp2_with fail
  refine (szps_any a len cap xs l _ hl (HP.out.later (bw1 _ _)) (fun x hx => (HLI.out x hx).later (bw1 _ _)) raw hlm h0 h1).mono ?_
  rintro e w1 ⟨⟨r, rfl, hr⟩, hx⟩
  have hb := (bw1 _ _).trans (hx.mono (by simp))
  rcases hr with rfl | ⟨hr0, hr1⟩
  · go_wp2_with fail
    go_ret
    exact ⟨⟨-1, rfl, .inl rfl⟩, hb⟩
  · have HR : Hid (r ≤ l - len - szL xs) := hr1
    clear hr1
    go_wp2_with fail
    go_ret
    exact ⟨⟨r, rfl, .inr ⟨hr0, HR.out⟩⟩, hb⟩
end Go.Proofs.YtmicnjphlakoaaaGreatDoor
