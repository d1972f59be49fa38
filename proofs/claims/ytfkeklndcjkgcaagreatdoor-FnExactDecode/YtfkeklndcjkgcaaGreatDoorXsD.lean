import Derived.Test.YtfkeklndcjkgcaaGreatDoorXsC
/-
  OWN WORK. What is decoded, as plain data; rows of bytes as strings.
-/
namespace Go.Proofs.YtfkeklndcjkgcaaGreatDoor
open Go.RowKit
set_option linter.unusedVariables false
set_option linter.unusedSimpArgs false

theorem cok_of {v : VD} (h : constB v = true) (hn : I64 v.n) (hf : v.f < 18446744073709551616) (hs : v.s.size ≤ maxLen) : COk v := by
  have hc := csm_of h ⟨hf, hs⟩
  simp only [constB, Bool.and_eq_true] at h
  obtain ⟨⟨h1, h2⟩, h3⟩ := h
  have hkey : v.s.toList = [] → v.s.size = 0 := fun h => by
    rw [ByteArray.toList_eq] at h
    have := congrArg List.length h
    rw [Array.length_toList] at this
    exact this
  have hs0 : v.k ≠ 4 → v.s.size = 0 := fun h4 => by
    by_cases hz : v.s.toList = []
    · exact hkey hz
    · exfalso
      rcases hc.k with e | e | e | e | e | e
      all_goals
        rw [e] at h1 h4
        simp [vok, zr, hz] at h1 h4
  have hr0 : v.r = 0 := by
    rcases hc.k with e | e | e | e | e | e
    all_goals
      rw [e] at h1
      simp [vok, zr] at h1
    all_goals omega
  refine ⟨hc.k, hn, ?_, hf, ?_, hc.nan, ?_, hr0⟩
  · intro hk
    rcases hc.k with e | e | e | e | e | e
    all_goals
      rw [e] at h1 hk
      simp [vok, zr] at h1 hk
    all_goals omega
  · intro hk
    rw [if_neg hk] at h3
    simpa using h3
  · intro h4
    have := hs0 h4
    have hz : v.s.data.size = 0 := this
    apply ByteArray.ext
    rw [Array.eq_empty_of_size_eq_zero hz]
    rfl

theorem di_ok {n : Nat} {d : FD} (h : DI n d) (hn : n ≤ 1000000) : d.ok := by
  have hm : (1000000 : Nat) ≤ maxLen := by unfold maxLen; omega
  exact ⟨by have := h.name; omega, by have := h.lu; omega, by have := h.lc; omega, by have := h.li; omega, by have := h.ln; omega, fun v hv => ⟨(h.consts v hv).2.1, by have := (h.consts v hv).2.2; omega⟩, fun v hv => by have := (h.named v hv).1; omega⟩
theorem fok_of {n : Nat} {c : List FD} (hn : n ≤ 1000000) (hd : ∀ f ∈ c, DI n f) (h0 : (partsV c).1 = 0) : ∀ f ∈ c, FOk f := by
  obtain ⟨_, _, h3, _, _⟩ := parts_ok h0
  have hm : (1000000 : Nat) ≤ maxLen := by unfold maxLen; omega
  intro f hf
  have D := hd f hf
  obtain ⟨p, hp⟩ := List.getElem?_of_mem hf
  have b := fp_none h3 p f hp
  unfold co0 at b
  refine ⟨D.line, D.params, D.regs, D.ups, fun v hv => ?_, D.ins, fun y hy => (D.named y hy).2⟩
  obtain ⟨q, hq⟩ := List.getElem?_of_mem hv
  obtain ⟨e1, e2, e3⟩ := D.consts v hv
  exact cok_of (ff_none b q v hq) e1 e2 (by omega)

/-- What these bytes are decoded to. -/
def DecP (bs : List UInt8) (cs : List FD) : Prop :=
  (∀ ys, (∀ y ∈ ys, FOk y) → encV ys = bs → bs ≠ [] → cs = ys) ∧ (cs = [] ∨ ((∀ y ∈ cs, FOk y) ∧ encV cs = bs ∧ bs ≠ []))
theorem DecP.uniq {bs : List UInt8} {c1 c2 : List FD} (h1 : DecP bs c1) (h2 : DecP bs c2) : c1 = c2 := by
  rcases h2.2 with e | ⟨f, g, n⟩
  · rcases h1.2 with e' | ⟨f', g', n'⟩
    · rw [e, e']
    · exact (h2.1 c1 f' g' n').symm
  · exact h1.1 c2 f g n
theorem encV_image {ys : List FD} {bs : List UInt8} (h : encV ys = bs) (hb : bs ≠ []) : bs = imageL ys := by
  unfold encV at h
  split at h
  · exact h.symm
  · exact absurd h.symm hb
theorem encV_parts {ys : List FD} {bs : List UInt8} (h : encV ys = bs) (hb : bs ≠ []) : (partsV ys).1 = 0 := by
  unfold encV at h
  split at h
  · rename_i hh
    exact (eshape_code0 hh.1).2.2
  · exact absurd h.symm hb
/-- A whole reading: what it gave, held against the bytes. -/
theorem DecP.of {n : Nat} {bs : List UInt8} {cs : List FD} (hn : n ≤ 1000000) (hd : ∀ f ∈ cs, DI n f) (hc : ∀ (ys : List FD) r0, (∀ y ∈ ys, FOk y) → bs = imageL ys ++ r0 → cs = ys) (he : encV cs = bs) (hb : bs ≠ []) : DecP bs cs :=
  ⟨fun ys hy h1 h2 => hc ys [] hy (by rw [List.append_nil]; exact encV_image h1 h2), .inr ⟨fok_of hn hd (encV_parts he hb), he, hb⟩⟩
theorem DecP.not {bs : List UInt8} {cs : List FD} (hc : ∀ (ys : List FD) r0, (∀ y ∈ ys, FOk y) → bs = imageL ys ++ r0 → cs = ys) (he : encV cs ≠ bs) : DecP bs [] :=
  ⟨fun ys hy h1 h2 => absurd (by rw [hc ys [] hy (by rw [List.append_nil]; exact encV_image h1 h2)]; exact h1) he, .inl rfl⟩
theorem DecP.no {bs : List UInt8} (hc : ∀ (ys : List FD) r0, (∀ y ∈ ys, FOk y) → bs ≠ imageL ys ++ r0) : DecP bs [] :=
  ⟨fun ys hy h1 h2 => absurd (by rw [List.append_nil]; exact encV_image h1 h2) (hc ys [] hy), .inl rfl⟩
theorem encV_len (c : List FD) : (encV c).length ≤ 1000000 := by
  unfold encV
  split
  · rename_i h; exact h.2
  · simp
theorem DecP.long {bs : List UInt8} (h : 1000000 < bs.length) : DecP bs [] :=
  ⟨fun ys hy h1 h2 => by
    have := encV_len ys
    rw [h1] at this
    omega, .inl rfl⟩

/-- Bytes in memory, made a string. -/
theorem conv_at {w : World} {b off cap : Nat} {l : List UInt8} (h : ∀ (i : Nat) (u : UInt8), l[i]? = some u → w.cell? ⟨b, off + i, none⟩ = some (.int .u8 (u.toNat : Int))) : (convert 33 9 (.slice (some ⟨b, off, none⟩) l.length cap)).run Tryz.prog w = .ok (.string (bOf l)) w := by
  have hrb : RB w (b + 1) (some ⟨b, off, none⟩) l := fun i x hx => ⟨b, off, rfl, by omega, World.block_lt_of_cell? _ _ (h i x hx), h i x hx⟩
  have := txt_part hrb 0 l.length cap rfl (by omega)
  simpa using this
theorem conv_nil (w : World) : (convert 33 9 (.slice none 0 0)).run Tryz.prog w = .ok (.string ⟨#[]⟩) w := by kernel_rfl
theorem conv_brow {w : World} {B : Nat} {sv : Value} {l : List UInt8} (h : BRow w B sv l) : (convert 33 9 sv).run Tryz.prog w = .ok (.string (bOf l)) w := by
  obtain ⟨a, cap, hsv, hs⟩ := h.rd
  rcases h.2 with ⟨e, h0⟩ | ⟨g, cap', cur, e, _⟩
  · have : l = [] := List.length_eq_zero_iff.1 h0
    subst this
    rw [e]
    exact conv_nil w
  · rw [e] at hsv ⊢
    cases hsv
    exact conv_at fun i u hu => by
      obtain ⟨b, off, ha, _, hc⟩ := hs i u hu
      cases ha
      simpa using hc 0 _ rfl
theorem bOf_inj {l l' : List UInt8} (h : bOf l = bOf l') : l = l' := by
  have := congrArg (fun b => b.data.toList) h
  simpa [bOf] using this
end Go.Proofs.YtfkeklndcjkgcaaGreatDoor

/-
  OWN WORK. The program's tape that is read: codes; the reading caught.
-/
namespace Go.Proofs.YtfkeklndcjkgcaaGreatDoor
open Go.RowKit
attribute [local go_sem] run_store_float
set_option linter.unusedVariables false
set_option linter.unusedSimpArgs false

theorem CodeR.base {c : Cx} {w : World} {lo lo' b : Nat} {sv : Value} {xs : List FC} (h : CodeR c w lo b sv xs) (hl : lo' ≤ lo) : CodeR c w lo' b sv xs := ⟨h.hb, h.row.base hl, fun x hx => (h.own x hx).base hl, h.di, h.dis, h.len⟩
theorem CodeR.later {c : Cx} {w w' : World} {lo b : Nat} {sv : Value} {xs : List FC} (h : CodeR c w lo b sv xs) (hb : Below w.heap.size w w') : CodeR c w' lo b sv xs := ⟨blk_later hb h.hb, h.row.later hb, fun x hx => (h.own x hx).later hb, h.di, h.dis, h.len⟩
/-- A code is read, or the tape ends. -/
def CodG (c : Cx) (b : Nat) (w : World) (v : Value) (e : Ending) (w' : World) : Prop :=
  Bs c.t b w w' ∧ ((∃ xs sv p', e = .returned v ∧ insS xs < p' ∧ Rt c w' p' ∧ CodeR c w' w.heap.size b sv xs ∧ ∀ (ys : List FD) r0, (∀ y ∈ ys, FOk y) → c.bs = imageL ys ++ r0 → xs.map FC.d = ys) ∨ (e = .panicked CH ∧ ∀ (ys : List FD) r0, (∀ y ∈ ys, FOk y) → c.bs ≠ imageL ys ++ r0))

set_option maxRecDepth 20000 in
set_option maxHeartbeats 8000000 in
theorem rco_any (c : Cx) (b : Nat) (w : World) (h : Rt c w 0) (hb : w.heap[b]? = some (.cells #[nl] 29)) (hlb : b ≠ c.t ∧ b ≠ c.ab ∧ b ≠ c.gp ∧ b ≠ c.gm) :
    Calls Tryz.prog 68 #[.pointer (some ⟨c.t, 0, none⟩), .pointer (some ⟨b, 0, none⟩)] w (CodG c b w (.tuple #[])) := by
  obtain ⟨w1, hw1, hy, hbk, hsz⟩ := newblk w (.cells #[.int .u8 72, .int .u8 67, .int .u8 1] 5 (3, 4))
  have hwt : w.heap.size ≠ c.t := by have := h.lt; have := h.hB; omega
  have H : Hid (Rt c w1 0) := h.later hy
  have HB : Hid (w1.heap[b]? = some (.cells #[nl] 29)) := blk_later hy hb
  have HK : Hid (Bs c.t c.t w w1) := Bs.of_below hy
  have HM : Hid (w1.heap[w.heap.size]? = some (.cells #[.int .u8 72, .int .u8 67, .int .u8 1] 5 (3, 4))) := hbk
  have hmf := mkf
  have hcv' : (convert 33 33 (.slice (some ⟨w.heap.size, 0, none⟩) 3 3)).run Tryz.prog (w.alloc (.cells #[.int .u8 72, .int .u8 67, .int .u8 1] 5)) = .ok (.slice (some ⟨w.heap.size, 0, none⟩) 3 3) w1 := by rw [hw1]; exact conv_mark w _
  clear h hb hy hbk hsz hw1
  go_enter Tryz.func68, Tryz.ntmps68
  go_wp2_with fail
  clear hcv'
  go_loopw [9] (fun i wr => ∃ (m : Nat), m ≤ 3 ∧ i = .int .i64 m ∧ Hid (Rt c wr m) ∧ Hid (Bs c.t c.t w wr) ∧ Hid (wr.heap[w.heap.size]? = some (.cells #[.int .u8 72, .int .u8 67, .int .u8 1] 5 (3, 4))) ∧ Hid (wr.heap[b]? = some (.cells #[nl] 29))) (fun i _ => 3 - (intOf i).toNat)
  case atStart => exact ⟨0, Nat.zero_le _, rfl, H, HK, HM, HB⟩
  case round =>
    clear H HK HM HB
    obtain ⟨m, hm, rfl, H, HK, HM, HB⟩ := hrel
    by_cases k1 : m < 3
    · obtain ⟨u, hu⟩ : ∃ u, [(72 : UInt8), 67, 1][m]? = some u := ⟨_, List.getElem?_eq_getElem (show m < [(72 : UInt8), 67, 1].length from k1)⟩
      have e0 : wr.cell? ⟨w.heap.size, m, none⟩ = some (.int .u8 (u.toNat : Int)) := (blk_cellf HM.out m).trans (MK_get m u hu)
      clear hu
      go_wp2_with fail
      refine (ro_any c m _ wr H.out).mono ?_
      rintro e w3 ⟨hk, ⟨u', hu', rfl, hr⟩ | ⟨rfl, hx⟩⟩
      · have HR3 : Hid (Rt c w3 (m + 1)) := hr
        have HK3 : Hid (Bs c.t c.t w w3) := HK.out.trans hk
        have HM3 : Hid (w3.heap[w.heap.size]? = some (.cells #[.int .u8 72, .int .u8 67, .int .u8 1] 5 (3, 4))) := hk.blk HM.out hwt hwt
        have HB3 : Hid (w3.heap[b]? = some (.cells #[nl] 29)) := hk.blk HB.out hlb.1 hlb.1
        clear hr hk hu' H HK HM HB e0
        go_wp2_with fail
        go_roundw
        case rel => exact ⟨m + 1, by omega, by go_num, HR3, HK3, HM3, HB3⟩
        case measure => simp [intOf]; omega
      · refine ⟨rfl, (HK.out.trans hk).to, .inr ⟨rfl, fun ys r0 hy hd => ?_⟩⟩
        have h1 := congrArg List.length hd
        simp only [imageL, List.length_append, List.length_cons, List.length_nil] at h1
        omega
    · obtain rfl : m = 3 := by omega
      go_wp2_with fail
      refine (rth_proto c 3 b wr H.out HB.out hlb).mono ?_
      rintro e w4 ⟨hk, ⟨xs, sv, p', rfl, hpp, hr, hC, hq⟩ | ⟨rfl, hx⟩⟩
      · go_wp2_with fail
        go_end0
        refine ⟨HK.out.to.trans hk, .inl ⟨xs, sv, p', rfl, by omega, hr, hC.base HK.out.size, fun ys r0 hy hd => ?_⟩⟩
        exact (hq ys r0 hy (by rw [hd]; simp [imageL])).1
      · refine ⟨rfl, HK.out.to.trans hk, .inr ⟨rfl, fun ys r0 hy hd => ?_⟩⟩
        exact hx ys r0 hy (by rw [hd]; simp [imageL])

/-- The reading, caught. -/
def RunG (c : Cx) (b : Nat) (w : World) (e : Ending) (w' : World) : Prop :=
  Bs c.t b w w' ∧ ((∃ xs sv p', e = .returned (.bool true) ∧ insS xs < p' ∧ Rt c w' p' ∧ CodeR c w' w.heap.size b sv xs ∧ ∀ (ys : List FD) r0, (∀ y ∈ ys, FOk y) → c.bs = imageL ys ++ r0 → xs.map FC.d = ys) ∨ (e = .returned (.bool false) ∧ ∀ (ys : List FD) r0, (∀ y ∈ ys, FOk y) → c.bs ≠ imageL ys ++ r0))
set_option maxRecDepth 20000 in
set_option maxHeartbeats 4000000 in
theorem rrun_any (c : Cx) (b : Nat) (w : World) (h : Rt c w 0) (hb : w.heap[b]? = some (.cells #[nl] 29)) (hlb : b ≠ c.t ∧ b ≠ c.ab ∧ b ≠ c.gp ∧ b ≠ c.gm) :
    Calls Tryz.prog 35 #[.pointer (some ⟨c.t, 0, none⟩), .pointer (some ⟨b, 0, none⟩)] w (RunG c b w) := by
  have HC : Hid (Calls _ _ _ _ _) := rco_any c b w h hb hlb
  have hmf := mkf
  clear h hb
  go_enter_defers Tryz.func35, Tryz.ntmps35
  go_wp2_with fail
  refine Calls.mono (show Calls _ _ _ _ _ from HC.out) ?_
  rintro e w2 ⟨hB, ⟨xs, sv, p', rfl, hpp, hr, hC, hq⟩ | ⟨rfl, hx⟩⟩
  · go_wp2_with fail
    refine leaves_cons (f := 67) (args := #[]) (by simp) (by simp [go_sem]) ?_
    refine (catch_idle _).mono ?_
    rintro e u' w'' ⟨rfl, rfl, hb⟩
    refine ⟨_, results_tmp rfl _ _ _, hB.trans (Bs.of_below hb), .inl ⟨xs, sv, p', rfl, hpp, hr.later hb, hC.later hb, hq⟩⟩
  · refine leaves_cons (f := 67) (args := #[]) (by simp) (by simp [go_sem]) ?_
    refine (catch_end _).mono ?_
    rintro e u' w'' ⟨rfl, rfl, hb⟩
    refine ⟨_, results_tmp rfl _ _ _, hB.trans (Bs.of_below hb), .inr ⟨rfl, hx⟩⟩
end Go.Proofs.YtfkeklndcjkgcaaGreatDoor

/-
  OWN WORK. Decode of the program.
-/
namespace Go.Proofs.YtfkeklndcjkgcaaGreatDoor
open Go.RowKit
attribute [local go_sem] run_store_float
set_option linter.unusedVariables false
set_option linter.unusedSimpArgs false

set_option maxHeartbeats 2000000 in
theorem be_any (s1 s2 : Value) (l1 l2 : List UInt8) (w : World) (h1 : (convert 33 9 s1).run Tryz.prog w = .ok (.string (bOf l1)) w) (h2 : (convert 33 9 s2).run Tryz.prog w = .ok (.string (bOf l2)) w) :
    Calls Tryz.prog 39 #[s1, s2] w fun e w' => e = .returned (.bool (decide (l1 = l2))) ∧ w' = w := by
  by_cases h : l1 = l2
  · rw [decide_eq_true h]
    rw [h] at h1
    go_enter Tryz.func39, Tryz.ntmps39
    go_wp2_with fail
    go_ret
    exact ⟨by simp, rfl⟩
  · have hne : ¬ (bOf l1).toList = (bOf l2).toList := fun e => h (by rw [ByteArray.toList_eq, ByteArray.toList_eq] at e; simpa [bOf] using e)
    rw [decide_eq_false h]
    go_enter Tryz.func39, Tryz.ntmps39
    go_wp2_with fail
    go_ret
    exact ⟨by simp [hne], rfl⟩

theorem Bs.below {t b : Nat} {w0 w w' : World} (h : Bs t b w w') (h0 : Below w0.heap.size w0 w) (ht : w0.heap.size ≤ t) (hb : w0.heap.size ≤ b) : Below w0.heap.size w0 w' :=
  h0.trans ⟨h.os, h.tape, h.output, h.size, fun j hj => h.block j (Nat.lt_of_lt_of_le hj h0.size) (by omega) (by omega)⟩

/-- A code in memory of its own. -/
structure OwnC (w : World) (lo : Nat) (sv : Value) (xs : List FC) : Prop where
  row : ORow w lo 50 9 FC.cells sv xs
  own : ∀ x ∈ xs, x.orow w lo
  dis : Dis xs
  ok : ∀ x ∈ xs, x.d.ok
  len : xs.length ≤ 1000000
  all : insS xs ≤ 1000000
theorem OwnC.nil (w : World) (lo : Nat) : OwnC w lo nl [] := ⟨ORow.nil _ _ _ _ _, (fun x hx => by cases hx), dis_nil, (fun x hx => by cases hx), by simp, by simp [insS]⟩
theorem OwnC.later {w w' : World} {lo : Nat} {sv : Value} {xs : List FC} (h : OwnC w lo sv xs) (hb : Below w.heap.size w w') : OwnC w' lo sv xs := ⟨h.row.later hb, fun x hx => (h.own x hx).later hb, h.dis, h.ok, h.len, h.all⟩
theorem OwnC.put {w : World} {lo q : Nat} {sv : Value} {xs : List FC} {arr : Array Value} {fz : Nat × Nat} (h : OwnC w lo sv xs) (hq : w.heap[q]? = some (.cells arr 29 fz)) (j : Nat) (v : Value) : OwnC (w.setCell ⟨q, j, none⟩ v) lo sv xs :=
  ⟨h.row.put hq (by decide) j v, fun x hx => (h.own x hx).put hq (by decide) (by decide) (by decide) (by decide) j v, h.dis, h.ok, h.len, h.all⟩
theorem OwnC.at_ {w : World} {lo : Nat} {sv : Value} {xs : List FC} (h : OwnC w lo sv xs) : ∃ a cap, sv = .slice a xs.length cap ∧ CodeAt w a xs := by
  obtain ⟨a, cap, e, hs⟩ := h.row.lies FC.len
  exact ⟨a, cap, e, hs, fun x hx => (h.own x hx).lie, h.ok, by have := h.len; omega, by have := h.all; unfold insS at this; omega⟩
theorem CodeR.ownC {c : Cx} {w : World} {lo b : Nat} {sv : Value} {xs : List FC} (h : CodeR c w lo b sv xs) (hn : c.n ≤ 1000000) (ha : insS xs ≤ 1000000) : OwnC w lo sv xs :=
  ⟨h.row, h.own, h.dis, fun x hx => di_ok (h.di x hx) hn, h.len, ha⟩

def IDec (bs : List UInt8) (w : World) (e : Ending) (w' : World) : Prop := (∃ sv xs, e = .returned (.agg #[sv]) ∧ OwnC w' w.heap.size sv xs ∧ DecP bs (xs.map FC.d)) ∧ Below w.heap.size w w'

set_option maxRecDepth 20000 in
set_option maxHeartbeats 8000000 in
theorem idec_any (ab off n cap : Nat) (bs : List UInt8) (w : World) (hby : ∀ (i : Nat) (u : UInt8), bs[i]? = some u → w.cell? ⟨ab, off + i, none⟩ = some (.int .u8 (u.toNat : Int))) (hab : ab < w.heap.size) (hn : bs.length = n) (hcap : n ≤ cap) (hcm : cap ≤ maxLen) (hlay : LayAt w) :
    Calls Tryz.prog 19 #[.slice (some ⟨ab, off, none⟩) n cap] w (IDec bs w) := by
  have HBY : Hid (∀ (i : Nat) (u : UInt8), bs[i]? = some u → w.cell? ⟨ab, off + i, none⟩ = some (.int .u8 (u.toNat : Int))) := hby
  have HN : Hid (bs.length = n) := hn
  have HLY : Hid (LayAt w) := hlay
  have HCM : Hid (cap ≤ maxLen) := hcm
  have hcm2 := hcm
  unfold maxLen at hcm2
  clear hby hn hlay hcm
  by_cases k1 : 1000000 < n
  · go_enter Tryz.func19, Tryz.ntmps19
    go_wp2_with fail
    refine bodyPost_ret (v := .agg #[nl]) (by simp [results, Tryz.results19, go_sem]) rfl ⟨⟨nl, [], rfl, OwnC.nil _ _, DecP.long (by rw [HN.out]; exact k1)⟩, ?_⟩
    exact bw1 _ _
  · have hy := bw2 w (.cells #[nl] 29) (.cells #[nl] 29)
    obtain ⟨W, hW⟩ : ∃ W, W = (w.alloc (.cells #[nl] 29)).alloc (.cells #[nl] 29) := ⟨_, rfl⟩
    have G0 : Hid (W.heap[w.heap.size]? = some (.cells #[nl] 29)) := by rw [hW]; exact blk_old (blk_new _ _) _
    have G1 : Hid (W.heap[w.heap.size + 1]? = some (.cells #[nl] 29)) := by rw [hW]; exact blk_newn (by simp) _
    have hWs : W.heap.size = w.heap.size + 2 := by rw [hW]; simp
    rw [← hW] at hy
    have hbW : Below w.heap.size w W := hy
    go_enter Tryz.func19, Tryz.ntmps19
    go_wp2_with fail
    rw [← hW]
    refine (new_any (some ⟨ab, off, none⟩) n cap true W).mono ?_
    rintro e w2 ⟨rfl, hb2, hT, hP, hM⟩
    obtain ⟨T, hT0⟩ : ∃ T, T = W.heap.size := ⟨_, rfl⟩
    rw [← hT0] at hT hP hM ⊢
    have hws2 : T + 3 ≤ w2.heap.size := by have := blk_lt hM; omega
    obtain ⟨c, hc⟩ : ∃ c : Cx, c = ⟨w2.heap.size, T, T + 1, T + 2, ab, off, n, cap, bs⟩ := ⟨_, rfl⟩
    have hb02 : Below w.heap.size w w2 := hbW.trans (hb2.mono hbW.size)
    have HR : Hid (Rt c w2 0) := by
      rw [hc]
      exact ⟨hT, fun i u hu => cell_later hb02 (HBY.out i u hu), ⟨hP, hM, by show T + 1 ≠ T; omega, by show T + 2 ≠ T; omega⟩, by show ab < w2.heap.size; omega, by show T < w2.heap.size; omega, by show T + 1 < w2.heap.size; omega, by show T + 2 < w2.heap.size; omega, by show ab ≠ T; omega, Nat.le_refl _, HN.out, by show n ≤ 1000000; omega, hcap, HCM.out, Nat.zero_le _⟩
    have hct : c.t = T := by rw [hc]
    have hcn : c.n = n := by rw [hc]
    have hcb : c.bs = bs := by rw [hc]
    have HRU : Hid _ := rrun_any c (w.heap.size + 1) w2 HR.out (blk_later hb2 G1.out) (by rw [hc]; exact ⟨(by show w.heap.size + 1 ≠ T; omega), (by show w.heap.size + 1 ≠ ab; omega), (by show w.heap.size + 1 ≠ T + 1; omega), (by show w.heap.size + 1 ≠ T + 2; omega)⟩)
    rw [hct] at HRU
    have G02 : Hid (w2.heap[w.heap.size]? = some (.cells #[nl] 29)) := blk_later hb2 G0.out
    have HB2 : Hid (Below w.heap.size w w2) := hb02
    have hTs : w.heap.size + 2 = T := by omega
    have HTS : Hid (w.heap.size + 2 = T) := hTs
    have HCT : Hid (c.t = T) := hct
    have HCN : Hid (c.n = n) := hcn
    have HCB : Hid (c.bs = bs) := hcb
    clear hb2 hT hP hM hc hbW hy HR G0 G1 hb02 hTs hct hcn hcb hWs hT0 hW hws2
    go_wp2_with fail
    refine Calls.mono HRU.out ?_
    rintro e w3 ⟨hk, ⟨xs, sv, p', rfl, hpp, hr, hC, hq⟩ | ⟨rfl, hx⟩⟩
    · have hTs := HTS.out
      have hct := HCT.out
      have hcn := HCN.out
      have hcb := HCB.out
      have hb03 : Below w.heap.size w w3 := hk.below HB2.out (by omega) (by omega)
      have g0 : w3.heap[w.heap.size]? = some (.cells #[nl] 29) := hk.blk G02.out (by omega) (by omega)
      have hp' := hr.hp
      have hO : OwnC w3 w2.heap.size sv xs := hC.ownC (by omega) (by omega)
      obtain ⟨a, cp, hsv, hA⟩ := hO.at_
      have HA : Hid (CodeAt w3 a xs) := hA
      have HO : Hid (OwnC w3 w2.heap.size sv xs) := hO
      have G13 : Hid (w3.heap[w.heap.size + 1]? = some (.cells #[sv] 29)) := hC.hb
      have G03 : Hid (w3.heap[w.heap.size]? = some (.cells #[nl] 29)) := g0
      have HB3 : Hid (Below w.heap.size w w3) := hb03
      have c1 : w3.cell? ⟨w.heap.size + 1, 0, none⟩ = some sv := (blk_cell hC.hb 0).trans rfl
      rw [hcb] at hq
      have HQ : Hid (∀ (ys : List FD) r0, (∀ y ∈ ys, FOk y) → bs = imageL ys ++ r0 → xs.map FC.d = ys) := hq
      have HDI : Hid (∀ f ∈ xs.map FC.d, DI n f) := fun f hf => by
        obtain ⟨x, hx, rfl⟩ := List.mem_map.1 hf
        have := hC.di x hx
        rw [hcn] at this
        exact this
      have hbn : bs ≠ [] := fun e => by
        have h1 := HN.out
        rw [e] at h1
        simp at h1
        omega
      have HBN : Hid (bs ≠ []) := hbn
      obtain ⟨len, hlen⟩ : ∃ len, len = xs.length := ⟨_, rfl⟩
      have HL : Hid (xs.length = len) := hlen.symm
      rw [← hlen] at hsv
      subst hsv
      clear hk hr hC hq hb03 g0 hO hA hbn hlen HRU hTs hct hcn hcb hpp hp'
      go_wp2_with fail
      refine (ienc_any a len cp xs w3 HA.out HL.out (HLY.out.later HB3.out)).mono ?_
      rintro e w4 ⟨⟨sI, rfl, hI⟩, hx4⟩
      have hcv1 := conv_brow hI
      have HB4 : Hid (Below w.heap.size w w4) := HB3.out.trans (hx4.mono HB3.out.size)
      have hcv2 : (convert 33 9 (.slice (some ⟨ab, off, none⟩) n cap)).run Tryz.prog w4 = .ok (.string (bOf bs)) w4 := by
        have := conv_at (w := w4) (b := ab) (off := off) (cap := cap) (l := bs) (fun i u hu => cell_later HB4.out (HBY.out i u hu))
        rw [HN.out] at this
        exact this
      have HBE : Hid _ := be_any sI (.slice (some ⟨ab, off, none⟩) n cap) (encV (xs.map FC.d)) bs w4 hcv1 hcv2
      have HO4 : Hid (OwnC w4 w2.heap.size (.slice a len cp) xs) := HO.out.later hx4
      have g04 := blk_later hx4 G03.out
      have g14 := blk_later hx4 G13.out
      have c14 : w4.cell? ⟨w.heap.size + 1, 0, none⟩ = some (.slice a len cp) := (blk_cell g14 0).trans rfl
      have c04 : w4.cell? ⟨w.heap.size, 0, none⟩ = some nl := (blk_cell g04 0).trans rfl
      have z04 := blk_frozen g04
      have G04 : Hid (w4.heap[w.heap.size]? = some (.cells #[nl] 29)) := g04
      clear hI hx4 hcv1 hcv2 HO HA G03 G13 c1 g04 g14 HB3
      have hw2s : w.heap.size ≤ w2.heap.size := HB2.out.size
      by_cases heq : encV (xs.map FC.d) = bs
      · rw [decide_eq_true heq] at HBE
        go_wp2_with fail
        refine Calls.mono HBE.out ?_
        rintro e w5 ⟨rfl, rfl⟩
        go_wp2_with fail
        refine bodyPost_ret (v := .agg #[.slice a len cp]) (by simp [results, Tryz.results19, go_sem, c04]) rfl ⟨⟨.slice a len cp, xs, rfl, ?_, DecP.of (n := n) (by omega) HDI.out HQ.out heq HBN.out⟩, ?_⟩
        · have h6 := HO4.out.put G04.out 0 (.slice a len cp)
          exact ⟨h6.row.base hw2s, fun x hx => (h6.own x hx).base hw2s, h6.dis, h6.ok, h6.len, h6.all⟩
        · exact HB4.out.setCell (p := ⟨w.heap.size, 0, none⟩) (Nat.le_refl _) _
      · rw [decide_eq_false heq] at HBE
        go_wp2_with fail
        refine Calls.mono HBE.out ?_
        rintro e w5 ⟨rfl, rfl⟩
        go_wp2_with fail
        refine bodyPost_ret (v := .agg #[nl]) (by simp [results, Tryz.results19, go_sem, c04]) rfl ⟨⟨nl, [], rfl, OwnC.nil _ _, DecP.not HQ.out heq⟩, ?_⟩
        exact HB4.out.setCell (p := ⟨w.heap.size, 0, none⟩) (Nat.le_refl _) _
    · have hTs := HTS.out
      have hct := HCT.out
      have hcb := HCB.out
      have hb03 : Below w.heap.size w w3 := hk.below HB2.out (by omega) (by omega)
      have g0 : w3.heap[w.heap.size]? = some (.cells #[nl] 29) := hk.blk G02.out (by omega) (by omega)
      have c0 : w3.cell? ⟨w.heap.size, 0, none⟩ = some nl := (blk_cell g0 0).trans rfl
      have z0 := blk_frozen g0
      rw [hcb] at hx
      have HX : Hid _ := hx
      clear hx hk HRU hTs hct hcb
      go_wp2_with fail
      refine bodyPost_ret (v := .agg #[nl]) (by simp [results, Tryz.results19, go_sem, c0]) rfl ⟨⟨nl, [], rfl, OwnC.nil _ _, DecP.no HX.out⟩, ?_⟩
      exact hb03.setCell (p := ⟨w.heap.size, 0, none⟩) (Nat.le_refl _) _
end Go.Proofs.YtfkeklndcjkgcaaGreatDoor
