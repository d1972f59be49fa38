import Derived.Test.YtfkeklndcjkgcaaGreatDoorEsB
import Derived.Laws.IdiomStrings
import Derived.MapKept
/-
  OWN WORK. The program's tape that is written: its bytes, its end.
-/
namespace Go.Proofs.YtfkeklndcjkgcaaGreatDoor
open Go.RowKit
attribute [local go_sem] run_store_float
set_option linter.unusedVariables false
set_option linter.unusedSimpArgs false

abbrev TO (sv : Value) (gp gm : Nat) : Obj := .cells #[sv, .bool false, .int .i64 0, .slice (some ⟨gp, 0, none⟩) 5 5, .map (some gm)] 78
/-- The tape that is written, what it holds. -/
structure Tape (w : World) (B t gp gm : Nat) (l : List UInt8) : Prop where
  ex : ∃ sv, w.heap[t]? = some (TO sv gp gm) ∧ BRow w B sv l
  len : l.length ≤ 1000000
  lo : B ≤ w.heap.size
/-- The panic of a tape that has no room. -/
def CH : List PanicEntry := [{ v := .iface 120 (.agg #[]), recovered := false }]
/-- What a part of the writing does: it goes on, or the tape ends. -/
def Wrote (B t gp gm : Nat) (w : World) (l : List UInt8) (v : Value) (e : Ending) (w' : World) : Prop :=
  Kp B (some t) w w' ∧ ((e = .returned v ∧ Tape w' B t gp gm l) ∨ (e = .panicked CH ∧ 1000000 < l.length))

theorem Kp.set (B t : Nat) (w : World) (j : Nat) (v : Value) : Kp B (some t) w (w.setCell ⟨t, j, none⟩ v) :=
  ⟨rfl, rfl, rfl, by simp, fun q hq hn _ => by
    have hne : ¬ t = q := fun he => hn (by rw [he])
    cases hh : w.heap[q]? with
    | none => have := Array.getElem?_eq_none_iff.1 hh; omega
    | some o => exact blk_other hh hne j v⟩
theorem brow_set {w : World} {B t : Nat} {sv : Value} {l : List UInt8} {arr : Array Value} {T : TypeId} (h : BRow w B sv l) (ht : w.heap[t]? = some (.cells arr T)) (hT : T ≠ 5) (j : Nat) (v : Value) : BRow (w.setCell ⟨t, j, none⟩ v) B sv l := by
  obtain ⟨h1, h2⟩ := h
  refine ⟨h1, ?_⟩
  rcases h2 with h2 | ⟨g, cap, cur, e1, e2, e3, e4⟩
  · exact .inl h2
  · refine .inr ⟨g, cap, cur, e1, e2, blk_other e3 (fun he => ?_) j v, e4⟩
    subst he
    rw [ht] at e3
    cases e3
    exact hT rfl
theorem Kp.grow {B : Nat} {tb : Option Nat} {w w' : World} {sv : Value} {l : List UInt8} (ho : BRow w B sv l) (hg : w.grownBy w' sv.ownBlock) : Kp B tb w w' := Kp.of_grown ho hg
theorem tape_set {w : World} {B t gp gm : Nat} {sv sv' : Value} {l : List UInt8} (ht : w.heap[t]? = some (TO sv gp gm)) (h : BRow w B sv' l) (hl : l.length ≤ 1000000) (hlo : B ≤ w.heap.size) : Tape (w.setCell ⟨t, 0, none⟩ sv') B t gp gm l :=
  ⟨⟨sv', blk_set ht 0 sv', brow_set h ht (by decide) 0 sv'⟩, hl, by simpa using hlo⟩
theorem Tape.later {w w' : World} {B t gp gm : Nat} {l : List UInt8} (h : Tape w B t gp gm l) (hb : Below w.heap.size w w') : Tape w' B t gp gm l :=
  ⟨h.ex.imp fun sv k => ⟨blk_later hb k.1, k.2.later hb⟩, h.len, Nat.le_trans h.lo hb.size⟩
theorem Wrote.trans {B t gp gm : Nat} {w w1 w2 : World} {l : List UInt8} {v : Value} {e : Ending} (h : Kp B (some t) w w1) (h2 : Wrote B t gp gm w1 l v e w2) : Wrote B t gp gm w l v e w2 := ⟨h.trans h2.1, h2.2⟩

/-- A cell that stays while the tape is written. -/
def Sc (w : World) (B t : Nat) (p : Addr) (v : Value) : Prop := w.cell? p = some v ∧ p.block < w.heap.size ∧ p.block ≠ t ∧ (p.block < B ∨ ∀ arr fz, w.heap[p.block]? ≠ some (.cells arr 5 fz))
theorem cell_of_block {w w' : World} {p : Addr} (h : w'.heap[p.block]? = w.heap[p.block]?) : w'.cell? p = w.cell? p := by
  unfold World.cell?
  rw [h]
theorem Sc.keep {w w' : World} {B t : Nat} {p : Addr} {v : Value} (h : Sc w B t p v) (hK : Kp B (some t) w w') : Sc w' B t p v := by
  obtain ⟨h1, h2, h3, h4⟩ := h
  have e := hK.block p.block h2 (fun he => h3 (Option.some.inj he)) h4
  refine ⟨(cell_of_block e).trans h1, Nat.lt_of_lt_of_le h2 hK.size, h3, ?_⟩
  rcases h4 with h4 | h4
  · exact .inl h4
  · exact .inr (by rw [e]; exact h4)
theorem Sc.later {w w' : World} {B t : Nat} {p : Addr} {v : Value} (h : Sc w B t p v) (hb : Below w.heap.size w w') : Sc w' B t p v := h.keep (Kp.of_below hb)
theorem Sc.blk {w : World} {B t g : Nat} {arr : Array Value} {T : TypeId} (h : w.heap[g]? = some (.cells arr T)) (hT : T ≠ 5) (hg : g ≠ t) (j : Nat) (v : Value) (hv : arr[j]? = some v) : Sc w B t ⟨g, j, none⟩ v :=
  ⟨(blk_cell h j).trans hv, blk_lt h, hg, .inr fun a f => by show w.heap[g]? ≠ _; rw [h]; intro e; cases e; exact hT rfl⟩
theorem Sc.old {w : World} {B t g o : Nat} {v : Value} (h : w.cell? ⟨g, o, none⟩ = some v) (hg : g < B) (hB : B ≤ w.heap.size) (ht : g ≠ t) : Sc w B t ⟨g, o, none⟩ v :=
  ⟨h, Nat.lt_of_lt_of_le hg hB, ht, .inl hg⟩

set_option maxRecDepth 20000 in
set_option maxHeartbeats 4000000 in
theorem put_any (B t gp gm : Nat) (l m : List UInt8) (p : Addr) (cap : Nat) (w : World) (h : Tape w B t gp gm l) (hm : 0 < m.length) (hml : m.length ≤ 1000000000) (hp : ∀ j u, (Lib.byteCells m)[j]? = some u → w.cell? (p.add j) = some u) :
    Calls Tryz.prog 147 #[.pointer (some ⟨t, 0, none⟩), .slice (some p) m.length cap] w (Wrote B t gp gm w (l ++ m) (.tuple #[])) := by
  obtain ⟨⟨sv, hT, hR⟩, hl, hlo⟩ := h
  obtain ⟨ax, cx, rfl⟩ := hR.val
  have t0 : w.cell? ⟨t, 0, none⟩ = some (.slice ax l.length cx) := (blk_cell hT 0).trans rfl
  by_cases k1 : 1000000 < l.length + m.length
  · have k2 : (1000000 : Int) < (l.length : Int) + (m.length : Int) := by omega
    clear hp hR hT
    go_enter Tryz.func147, Tryz.ntmps147
    go_wp2_with fail
    exact ⟨rfl, Kp.refl _ _ _, .inr ⟨rfl, by rw [List.length_append]; exact k1⟩⟩
  · have k2 : ¬ (1000000 : Int) < (l.length : Int) + (m.length : Int) := by omega
    obtain ⟨g', cap', w', h1, h2, h3⟩ := app_bytes B w _ l m p cap 33 hR hp hm (by omega) hlo
    have HA : Hid ((Builtin.append_ #[33, 33] 33 #[.slice ax l.length cx, .slice (some p) m.length cap]).run Tryz.prog w = .ok (.slice (some ⟨g', 0, none⟩) (l.length + m.length) cap') w') := h1
    have hK1 : Kp B none w w' := Kp.of_grown hR h3
    have BT : Hid (w'.heap[t]? = some (TO _ gp gm)) := hK1.blk hT (by decide) (by simp)
    have HR : Hid (BRow w' B _ (l ++ m)) := h2
    have t1 : w'.cell? ⟨t, 0, none⟩ = some (.slice ax l.length cx) := (blk_cell BT.out 0).trans rfl
    have z := blk_frozen BT.out
    clear hp hR hT h1 h2 h3
    go_enter Tryz.func147, Tryz.ntmps147
    go_wp2_with (at_builtin; refine wpList_append_run rfl _ _ _ rfl _ _ _ _ rfl rfl HA.out ?_)
    go_end0
    exact ⟨(hK1.less (some t)).trans (Kp.set _ _ _ _ _), .inl ⟨rfl, tape_set BT.out HR.out (by rw [List.length_append]; omega) (Nat.le_trans hlo hK1.size)⟩⟩

/-- One byte. -/
theorem put1_any (B t gp gm : Nat) (l : List UInt8) (c : UInt8) (z : Int) (w : World) (h : Tape w B t gp gm l) (hz : z = (c.toNat : Int)) :
    Calls Tryz.prog 147 #[.pointer (some ⟨t, 0, none⟩), .slice (some ⟨w.heap.size, 0, none⟩) 1 1] (w.alloc (.cells #[.int .u8 z] 5)) (Wrote B t gp gm w (l ++ [c]) (.tuple #[])) := by
  have hy := bw1 w (.cells #[.int .u8 z] 5)
  refine (put_any B t gp gm l [c] ⟨w.heap.size, 0, none⟩ 1 _ (h.later hy) (by simp) (by simp) (fun j u hu => by
    rw [Addr.add_lit, Nat.zero_add, blk_cell (blk_new _ _)]
    rw [bc_one, ← hz] at hu
    simpa using hu)).mono ?_
  intro e w' hw
  exact Wrote.trans (Kp.of_below hy) hw

set_option maxRecDepth 20000 in
set_option maxHeartbeats 4000000 in
theorem octet_any (B t gp gm : Nat) (l : List UInt8) (c : UInt8) (z : Int) (w : World) (h : Tape w B t gp gm l) (hz : z = (c.toNat : Int)) :
    Calls Tryz.prog 122 #[.pointer (some ⟨t, 0, none⟩), .int .u8 z] w (Wrote B t gp gm w (l ++ [c]) (.int .u8 z)) := by
  have HT : Hid (Tape w B t gp gm l) := h
  have HZ : Hid (z = (c.toNat : Int)) := hz
  obtain ⟨⟨sv, hT, hR⟩, hl, hlo⟩ := h
  have t1 : w.cell? ⟨t, 1, none⟩ = some (.bool false) := (blk_cell hT 1).trans rfl
  clear hT hR hz
  go_enter Tryz.func122, Tryz.ntmps122
  go_wp2_with fail
  refine (put1_any B t gp gm l c z w HT.out HZ.out).mono ?_
  rintro e w1 ⟨hK, ⟨rfl, hT⟩ | ⟨rfl, hx⟩⟩
  · go_wp2_with fail
    go_ret
    exact ⟨hK, .inl ⟨rfl, hT⟩⟩
  · exact ⟨rfl, hK, .inr ⟨rfl, hx⟩⟩

set_option maxRecDepth 20000 in
set_option maxHeartbeats 4000000 in
theorem folded_any (n : Int) (w : World) : Calls Tryz.prog 150 #[.int .i64 n] w fun e w' => e = .returned (.int .u64 (zig n : Int)) ∧ w' = w := by
  by_cases hn : n < 0
  · have z1 := zig_neg hn
    go_enter Tryz.func150, Tryz.ntmps150
    go_wp2_with fail
    go_ret
    exact ⟨by first | rfl | rw [z1], rfl⟩
  · have z1 := zig_pos hn
    go_enter Tryz.func150, Tryz.ntmps150
    go_wp2_with fail
    go_ret
    exact ⟨by first | rfl | rw [z1], rfl⟩

theorem u8_128 (v : Nat) : bits .or .u8 ((v : Int) % 256) 128 = ((UInt8.ofNat (v % 128 + 128)).toNat : Int) := by
  have h := u8_or_nat (v % 256) 128 (by omega) (by omega)
  have key : ∀ x, x < 256 → x ||| 128 = x % 128 + 128 := by decide +kernel
  rw [key _ (by omega)] at h
  have e : ((v : Int) % 256) = ((v % 256 : Nat) : Int) := by omega
  rw [e, UInt8.toNat_ofNat']
  refine h.trans ?_
  omega
theorem wrote_len {l a b : List UInt8} (h : 1000000 < a.length) (e : a ++ b = l) : 1000000 < l.length := by rw [← e, List.length_append]; omega

set_option maxRecDepth 20000 in
set_option maxHeartbeats 4000000 in
theorem number_any (B t gp gm : Nat) (l : List UInt8) (n : Int) (p : Addr) (w : World) (h : Tape w B t gp gm l) (hp : w.cell? p = some (.int .i64 n)) :
    Calls Tryz.prog 120 #[.pointer (some ⟨t, 0, none⟩), .pointer (some p)] w (Wrote B t gp gm w (l ++ numL n) (.tuple #[])) := by
  have HT : Hid (Tape w B t gp gm l) := h
  obtain ⟨⟨sv, hT, hR⟩, hl, hlo⟩ := h
  have t1 : w.cell? ⟨t, 1, none⟩ = some (.bool false) := (blk_cell hT 1).trans rfl
  clear hT hR
  have hzl := zig_lt n
  obtain ⟨u, hu⟩ : ∃ u, u = zig n := ⟨_, rfl⟩
  have HU : Hid (numL n = grp u) := by show _ = _; rw [hu]; rfl
  have hf := fun w => folded_any n w
  rw [← hu] at hzl hf
  clear hu
  go_enter Tryz.func120, Tryz.ntmps120
  go_wp2_with (go_at_call 150; refine (hf _).mono ?_; rintro e w1 ⟨rfl, rfl⟩)
  clear hf t1 hp
  go_loopw [4] (fun x wr => ∃ (v : Nat) (l1 : List UInt8), x = .int .u64 (v : Int) ∧ v < 18446744073709551616 ∧ Hid (Tape wr B t gp gm l1) ∧ Hid (l1 ++ grp v = l ++ numL n) ∧ Hid (Kp B (some t) w1 wr)) (fun x _ => (intOf x).toNat)
  case atStart => exact ⟨u, l, rfl, hzl, HT, by show _ = _; rw [HU.out], Kp.refl _ _ _⟩
  case round =>
    clear HT hzl
    obtain ⟨v, l1, rfl, hv, HT, HE, HK⟩ := hrel
    by_cases k1 : v < 128
    · have k2 : (v : Int) < 128 := by omega
      have HE1 : Hid (l1 ++ [UInt8.ofNat v] = l ++ numL n) := by show _ = _; rw [← HE.out, grp_small k1]
      clear HE
      go_wp2_with fail
      refine (put1_any B t gp gm l1 (UInt8.ofNat v) _ wr HT.out (by rw [UInt8.toNat_ofNat']; omega)).mono ?_
      rintro e w2 ⟨hK, ⟨rfl, hT⟩ | ⟨rfl, hx⟩⟩
      · go_wp2_with fail
        go_end0
        exact ⟨HK.out.trans hK, .inl ⟨rfl, by rw [← HE1.out]; exact hT⟩⟩
      · exact ⟨rfl, HK.out.trans hK, .inr ⟨rfl, by rw [← HE1.out]; exact hx⟩⟩
    · have k2 : ¬ (v : Int) < 128 := by omega
      have k3 : (128 : Int) ≤ (v : Int) := by omega
      have HE1 : Hid ((l1 ++ [UInt8.ofNat (v % 128 + 128)]) ++ grp (v / 128) = l ++ numL n) := by show _ = _; rw [← HE.out, grp_big k1 hv, List.append_assoc]; rfl
      clear HE
      go_wp2_with fail
      refine (put1_any B t gp gm l1 (UInt8.ofNat (v % 128 + 128)) _ wr HT.out (u8_128 v)).mono ?_
      rintro e w2 ⟨hK, ⟨rfl, hT⟩ | ⟨rfl, hx⟩⟩
      · have HT2 : Hid (Tape w2 B t gp gm _) := hT
        have HK2 : Hid (Kp B (some t) w1 w2) := HK.out.trans hK
        clear hT hK HT HK
        go_wp2_with fail
        go_roundw
        case rel => exact ⟨v / 128, _, by congr 1, by omega, HT2, HE1, HK2⟩
        case measure => simp [intOf]; omega
      · exact ⟨rfl, HK.out.trans hK, .inr ⟨rfl, wrote_len hx HE1.out⟩⟩
end Go.Proofs.YtfkeklndcjkgcaaGreatDoor

/-
  OWN WORK. The program's tape that is written: flags, wholes, counts, texts.
-/
namespace Go.Proofs.YtfkeklndcjkgcaaGreatDoor
open Go.RowKit
attribute [local go_sem] run_store_float
set_option linter.unusedVariables false
set_option linter.unusedSimpArgs false

theorem Tape.reads {w : World} {B t gp gm : Nat} {l : List UInt8} (h : Tape w B t gp gm l) : w.cell? ⟨t, 1, none⟩ = some (.bool false) := by
  obtain ⟨⟨sv, hT, _⟩, _⟩ := h
  exact (blk_cell hT 1).trans rfl
theorem Tape.lt {w : World} {B t gp gm : Nat} {l : List UInt8} (h : Tape w B t gp gm l) : t < w.heap.size := by
  obtain ⟨⟨sv, hT, _⟩, _⟩ := h
  exact blk_lt hT

set_option maxRecDepth 20000 in
set_option maxHeartbeats 4000000 in
theorem flag_any (B t gp gm : Nat) (l : List UInt8) (b : Bool) (p : Addr) (w : World) (h : Tape w B t gp gm l) (hp : w.cell? p = some (.bool b)) :
    Calls Tryz.prog 111 #[.pointer (some ⟨t, 0, none⟩), .pointer (some p)] w (Wrote B t gp gm w (l ++ flagL b) (.tuple #[])) := by
  have HT : Hid (Tape w B t gp gm l) := h
  clear h
  cases b
  case' false =>
    go_enter Tryz.func111, Tryz.ntmps111
    go_wp2_with fail
    refine (octet_any B t gp gm l 0 _ w HT.out rfl).mono ?_
  case' true =>
    go_enter Tryz.func111, Tryz.ntmps111
    go_wp2_with fail
    refine (octet_any B t gp gm l 1 _ w HT.out rfl).mono ?_
  all_goals
    rintro e w1 ⟨hK, ⟨rfl, hT⟩ | ⟨rfl, hx⟩⟩
    · have t1 := hT.reads
      go_wp2_with fail
      go_end0
      exact ⟨hK, .inl ⟨rfl, hT⟩⟩
    · exact ⟨rfl, hK, .inr ⟨rfl, hx⟩⟩

set_option maxRecDepth 20000 in
set_option maxHeartbeats 4000000 in
theorem wholes_any (B t gp gm : Nat) (l : List UInt8) (qs : List (Addr × Int)) (ga cap : Nat) (T : TypeId) (w : World) (h : Tape w B t gp gm l) (hq : qs.length ≤ 100)
    (hg : w.heap[ga]? = some (.cells (qs.map fun q => Value.pointer (some q.1)).toArray T)) (hT : T ≠ 5) (hne : ga ≠ t) (hc : ∀ q ∈ qs, Sc w B t q.1 (.int .i64 q.2)) (n : Nat) (hn : n = qs.length) :
    Calls Tryz.prog 110 #[.pointer (some ⟨t, 0, none⟩), .slice (some ⟨ga, 0, none⟩) n cap] w (Wrote B t gp gm w (l ++ qs.flatMap fun q => numL q.2) (.tuple #[])) := by
  have HT : Hid (Tape w B t gp gm l) := h
  have HG : Hid (w.heap[ga]? = some (.cells (qs.map fun q => Value.pointer (some q.1)).toArray T)) := hg
  have HC : Hid (∀ q ∈ qs, Sc w B t q.1 (.int .i64 q.2)) := hc
  have HN : Hid (n = qs.length) := hn
  have hn2 : n ≤ 100 := by rw [hn]; exact hq
  clear h hg hc hn hq
  go_enter Tryz.func110, Tryz.ntmps110
  go_wp2_with fail
  go_loopw [9] (fun i wr => ∃ (m : Nat) (l1 : List UInt8), m ≤ n ∧ i = .int .i64 m ∧ Hid (Tape wr B t gp gm l1) ∧ Hid (l1 ++ (qs.drop m).flatMap (fun q => numL q.2) = l ++ qs.flatMap fun q => numL q.2) ∧ Hid (Kp B (some t) w wr)) (fun i _ => n - (intOf i).toNat)
  case atStart => exact ⟨0, l, Nat.zero_le _, rfl, HT, rfl, Kp.refl _ _ _⟩
  case round =>
    clear HT
    obtain ⟨m, l1, hm, rfl, HT, HE, HK⟩ := hrel
    by_cases k1 : m < n
    · obtain ⟨q, hq⟩ : ∃ q, qs[m]? = some q := ⟨qs[m]'(by rw [← HN.out]; exact k1), by simp⟩
      have e0 : wr.cell? ⟨ga, m, none⟩ = some (.pointer (some q.1)) := (blk_cell (HK.out.blk HG.out hT (by simpa using hne)) m).trans (by simp [hq])
      have e1 : wr.cell? q.1 = some (.int .i64 q.2) := ((HC.out q (List.mem_of_getElem? hq)).keep HK.out).1
      have HE1 : Hid ((l1 ++ numL q.2) ++ (qs.drop (m + 1)).flatMap (fun q => numL q.2) = l ++ qs.flatMap fun q => numL q.2) := by have h := HE.out; rw [flatMap_drop _ hq, ← List.append_assoc] at h; exact h
      obtain ⟨p, z⟩ := q
      have hy := bw1 wr (.cells #[.int .i64 z] 2)
      have HYT : Hid (Tape (wr.alloc (.cells #[.int .i64 z] 2)) B t gp gm l1) := HT.out.later hy
      have HYK : Hid (Kp B (some t) w (wr.alloc (.cells #[.int .i64 z] 2))) := HK.out.trans (Kp.of_below hy)
      dsimp only at e0 e1 HE1
      clear hq HE HT HK hy
      go_wp2_with fail
      refine (number_any B t gp gm l1 z ⟨wr.heap.size, 0, none⟩ _ HYT.out ((blk_cell (blk_new _ _) 0).trans rfl)).mono ?_
      rintro e w2 ⟨hK, ⟨rfl, hT2⟩ | ⟨rfl, hx⟩⟩
      · have t1 := hT2.reads
        have HT2 : Hid (Tape w2 B t gp gm _) := hT2
        have HK2 : Hid (Kp B (some t) w w2) := HYK.out.trans hK
        clear hT2 hK e0 e1 HYT HYK
        go_wp2_with fail
        go_roundw
        case rel => exact ⟨m + 1, _, by omega, by go_num, HT2, HE1, HK2⟩
        case measure => simp [intOf]; omega
      · exact ⟨rfl, HYK.out.trans hK, .inr ⟨rfl, wrote_len hx HE1.out⟩⟩
    · have HE1 : Hid (l1 = l ++ qs.flatMap fun q => numL q.2) := by
        have h := HE.out
        rw [fdrop_end (by rw [← HN.out]; omega), List.append_nil] at h
        exact h
      clear HE
      go_wp2_with fail
      go_end0
      exact ⟨HK.out, .inl ⟨rfl, by rw [← HE1.out]; exact HT.out⟩⟩

set_option maxRecDepth 20000 in
set_option maxHeartbeats 4000000 in
theorem count_any (B t gp gm : Nat) (l : List UInt8) (z : Int) (w : World) (h : Tape w B t gp gm l) :
    Calls Tryz.prog 146 #[.pointer (some ⟨t, 0, none⟩), .int .i64 z] w (Wrote B t gp gm w (l ++ numL z) (.int .i64 z)) := by
  have HT : Hid (Tape w B t gp gm l) := h
  have hlt := h.lt
  clear h
  have hy := bw2 w (.cells #[.int .i64 z] 3) (.cells #[.pointer (some ⟨w.heap.size, 0, none⟩)] 159)
  have hb : ((w.alloc (.cells #[.int .i64 z] 3)).alloc (.cells #[.pointer (some ⟨w.heap.size, 0, none⟩)] 159)).heap[w.heap.size]? = some (.cells #[.int .i64 z] 3) := blk_old (blk_new _ _) _
  have HB : Hid (((w.alloc (.cells #[.int .i64 z] 3)).alloc (.cells #[.pointer (some ⟨w.heap.size, 0, none⟩)] 159)).heap[w.heap.size]? = some (.cells #[.int .i64 z] 3)) := hb
  have HW := wholes_any B t gp gm l [(⟨w.heap.size, 0, none⟩, z)] (w.heap.size + 1) 1 159 _ (HT.out.later hy) (by simp) (blk_newn (by simp) _) (by decide) (by omega) (fun q hq => by
    obtain rfl : q = (⟨w.heap.size, 0, none⟩, z) := by simpa using hq
    exact Sc.blk hb (by decide) (by omega) 0 _ rfl) 1 rfl
  have HY : Hid (Kp B (some t) w ((w.alloc (.cells #[.int .i64 z] 3)).alloc (.cells #[.pointer (some ⟨w.heap.size, 0, none⟩)] 159))) := Kp.of_below hy
  have HWH : Hid (Calls _ _ _ _ _) := HW
  clear hy hb HW
  go_enter Tryz.func146, Tryz.ntmps146
  go_wp2_with fail
  refine Calls.mono (show Calls _ _ _ _ _ from HWH.out) ?_
  rintro e w2 ⟨hK, ⟨rfl, hT2⟩ | ⟨rfl, hx⟩⟩
  · have t1 := hT2.reads
    have c0 : w2.cell? ⟨w.heap.size, 0, none⟩ = some (.int .i64 z) := (blk_cell (hK.blk HB.out (by decide) (by simp; omega)) 0).trans rfl
    have HT2 : Hid (Tape w2 B t gp gm (l ++ numL z)) := by have h := hT2; simp only [List.flatMap_cons, List.flatMap_nil, List.append_nil] at h; exact h
    clear hT2
    go_wp2_with fail
    have e0 := lat_cell t1
    have e1 := lat_cell c0
    haveI := lat_some w2
    clear t1 c0
    refine wp_region_lat (by kernel_rfl) (by kernel_rfl) ?_
    repeat (go_big_quiet_step (fail))
    refine wpQuiet_nil ?_
    rintro _ ⟨nq, rfl⟩
    have c1 := e1 nq
    clear e0 e1
    go_wp2_with fail
    go_ret
    exact ⟨HY.out.trans (hK.trans (Kp.of_below nq.below)), .inl ⟨rfl, HT2.out.later nq.below⟩⟩
  · exact ⟨rfl, HY.out.trans hK, .inr ⟨rfl, by simpa using hx⟩⟩

theorem blk_cellf {w : World} {g : Nat} {arr : Array Value} {t : TypeId} {fz : Nat × Nat} (h : w.heap[g]? = some (.cells arr t fz)) (j : Nat) : w.cell? ⟨g, j, none⟩ = arr[j]? := by simp [World.cell?, h]
theorem bytes_of (s : ByteArray) (w : World) : ∃ cap w', (convert 9 33 (.string s)).run Tryz.prog w = .ok (.slice (some ⟨w.heap.size, 0, none⟩) s.size cap) w' ∧ Below w.heap.size w w' ∧ ∀ j u, (Lib.byteCells s.data.toList)[j]? = some u → w'.cell? ⟨w.heap.size, j, none⟩ = some u := by
  refine ⟨_, _, run_bytes_of_string w 9 33 5 s Tryz.underlying9 Tryz.underlying33 Tryz.underlying5, ?_, ?_⟩
  · exact ((Below.refl _ _).drew).alloc (by simp) _
  · intro j u hu
    have hj : j < s.data.size := by have := (List.getElem?_eq_some_iff.1 hu).1; simpa [Lib.byteCells] using this
    have hb := blk_new w.drew (.cells (bytesRow s (grownCap w s.size 0 5)) 5 ((bytesRow s (grownCap w s.size 0 5)).size, (bytesRow s (grownCap w s.size 0 5)).size + 1))
    have hb' : (w.drew.alloc (.cells (bytesRow s (grownCap w s.size 0 5)) 5 ((bytesRow s (grownCap w s.size 0 5)).size, (bytesRow s (grownCap w s.size 0 5)).size + 1))).heap[w.heap.size]? = _ := hb
    refine (blk_cellf hb' j).trans ?_
    rw [← hu]
    simp [bytesRow, Lib.byteCells, Array.getElem?_append, hj]
    intro h
    exact absurd h (by show ¬ s.data.size ≤ j; omega)

set_option maxRecDepth 20000 in
set_option maxHeartbeats 4000000 in
theorem put_nil (B t gp gm : Nat) (l : List UInt8) (p : Addr) (cap : Nat) (w : World) (h : Tape w B t gp gm l) :
    Calls Tryz.prog 147 #[.pointer (some ⟨t, 0, none⟩), .slice (some p) 0 cap] w (Wrote B t gp gm w l (.tuple #[])) := by
  obtain ⟨⟨sv, hT, hR⟩, hl, hlo⟩ := h
  obtain ⟨ax, cx, rfl⟩ := hR.val
  have BT : Hid (w.heap[t]? = some (TO _ gp gm)) := hT
  have HR : Hid (BRow w B _ l) := hR
  have t0 : w.cell? ⟨t, 0, none⟩ = some (.slice ax l.length cx) := (blk_cell hT 0).trans rfl
  have z := blk_frozen BT.out
  have k2 : ¬ (1000000 : Int) < (l.length : Int) := by omega
  have HA : Hid ((Builtin.append_ #[33, 33] 33 #[.slice ax l.length cx, .slice (some p) 0 cap]).run Tryz.prog w = .ok (.slice ax l.length cx) w) := by
    obtain ⟨i, hi, hz, e1, e2⟩ := byte_info
    show _ = _
    rcases hR.2 with ⟨hs, h0⟩ | ⟨g, cap', cur, hs, _, _, hnc, _⟩
    · simp only [Value.slice.injEq] at hs
      obtain ⟨rfl, _, rfl⟩ := hs
      rw [h0]
      simp [Builtin.append_, run_underlying Tryz.underlying33, sizeOf, typeInfo, hi, Builtin.lenOf, Builtin.firstCells, loadCells, loadCellsFrom, storeCells]
    · cases hs
      simp [Builtin.append_, run_underlying Tryz.underlying33, sizeOf, typeInfo, hi, Builtin.lenOf, Builtin.firstCells, hnc, loadCells, loadCellsFrom, storeCells]
  clear hT hR
  go_enter Tryz.func147, Tryz.ntmps147
  go_wp2_with (at_builtin; refine wpList_append_run rfl _ _ _ rfl _ _ _ _ rfl rfl HA.out ?_)
  go_end0
  exact ⟨Kp.set _ _ _ _ _, .inl ⟨rfl, tape_set BT.out HR.out hl hlo⟩⟩

set_option maxRecDepth 20000 in
set_option maxHeartbeats 4000000 in
theorem text_any (B t gp gm : Nat) (l : List UInt8) (s : ByteArray) (p : Addr) (w : World) (h : Tape w B t gp gm l) (hp : Sc w B t p (.string s)) (hs : s.size ≤ 1000000000) :
    Calls Tryz.prog 109 #[.pointer (some ⟨t, 0, none⟩), .pointer (some p)] w (Wrote B t gp gm w (l ++ textL s) (.tuple #[])) := by
  have HT : Hid (Tape w B t gp gm l) := h
  have HP : Hid (Sc w B t p (.string s)) := hp
  have e0 := hp.1
  have hlt := h.lt
  clear h hp
  go_enter Tryz.func109, Tryz.ntmps109
  go_wp2_with fail
  refine (count_any B t gp gm l (s.size : Int) _ HT.out).mono ?_
  rintro e w2 ⟨hK, ⟨rfl, hT2⟩ | ⟨rfl, hx⟩⟩
  · have t1 := hT2.reads
    have e1 := (HP.out.keep hK).1
    obtain ⟨cap, w3, hcv, hy, hcell⟩ := bytes_of s w2
    have HT3 : Hid (Tape w3 B t gp gm (l ++ numL (s.size : Int))) := hT2.later hy
    have HK3 : Hid (Kp B (some t) w w3) := hK.trans (Kp.of_below hy)
    have HC3 : Hid (∀ j u, (Lib.byteCells s.data.toList)[j]? = some u → w3.cell? ⟨w2.heap.size, j, none⟩ = some u) := hcell
    clear hy hcell hT2 hK
    go_wp2_with fail
    clear t1 e1 hcv
    by_cases h0 : s.size = 0
    · have hd : s.data.toList = [] := by
        apply List.length_eq_zero_iff.1
        rw [Array.length_toList]; exact h0
      rw [h0]
      refine (put_nil B t gp gm _ _ cap w3 HT3.out).mono ?_
      rintro e w4 ⟨hK, ⟨rfl, hT2⟩ | ⟨rfl, hx⟩⟩
      · go_wp2_with fail
        go_end0
        exact ⟨HK3.out.trans hK, .inl ⟨rfl, by unfold textL; rw [hd, List.append_nil, h0] ; rw [h0] at hT2; exact hT2⟩⟩
      · exact ⟨rfl, HK3.out.trans hK, .inr ⟨rfl, by unfold textL; rw [hd, List.append_nil]; exact hx⟩⟩
    · refine (put_any B t gp gm _ s.data.toList ⟨w2.heap.size, 0, none⟩ cap w3 HT3.out (by rw [Array.length_toList]; show 0 < s.size; omega) (by rw [Array.length_toList]; exact hs) (fun j u hu => by rw [Addr.add_lit, Nat.zero_add]; exact HC3.out j u hu)).mono ?_
      rintro e w4 ⟨hK, ⟨rfl, hT2⟩ | ⟨rfl, hx⟩⟩
      · go_wp2_with fail
        go_end0
        exact ⟨HK3.out.trans hK, .inl ⟨rfl, by unfold textL; rw [← List.append_assoc]; exact hT2⟩⟩
      · exact ⟨rfl, HK3.out.trans hK, .inr ⟨rfl, by unfold textL; rw [← List.append_assoc]; exact hx⟩⟩
  · exact ⟨rfl, hK, .inr ⟨rfl, by unfold textL; rw [← List.append_assoc]; exact wrote_len hx rfl⟩⟩
end Go.Proofs.YtfkeklndcjkgcaaGreatDoor

/-
  OWN WORK. The program's new tape: its parts, its map of kinds.
-/
namespace Go.Proofs.YtfkeklndcjkgcaaGreatDoor
open Go.RowKit
attribute [local go_sem] run_store_float
set_option linter.unusedVariables false
set_option linter.unusedSimpArgs false

/-- A method of the tape, as a value. -/
abbrev MV (f t : Nat) : Value := .func (Fn.func f) #[.pointer (some ⟨t, 0, none⟩)] #[]
def KES (t : Nat) : Array MapEntry := #[⟨.int .i64 1, MV 64 t, 0⟩, ⟨.int .i64 2, MV 64 t, 1⟩, ⟨.int .i64 3, MV 65 t, 2⟩, ⟨.int .i64 4, MV 66 t, 3⟩, ⟨.int .i64 8, MV 64 t, 4⟩]
abbrev GPO (t : Nat) : Obj := .cells #[MV 59 t, MV 60 t, MV 61 t, MV 62 t, MV 63 t] 117

theorem findi (k : Int) (es : List MapEntry) (r : Option (Nat × Value)) (h : Instr.findNow (.int .i64) (.int .i64 k) es 0 = some r) (w : World) : (Instr.findKey 3 (.int .i64 k) es).run Tryz.prog w = .ok r w := by
  unfold Instr.findKey
  simp [run_underlying Tryz.underlying3, h]
theorem checki (k : Int) (em : Bool) (w : World) : (Instr.checkKey em 10000 3 (.int .i64 k)).run Tryz.prog w = .ok () w := by
  unfold Instr.checkKey
  simp [run_underlying Tryz.underlying3]

/-- All is as it was but one block. -/
structure But1 (g : Nat) (w w' : World) : Prop where
  os : w'.os = w.os
  tape : w'.tape = w.tape
  output : w'.output = w.output
  size : w'.heap.size = w.heap.size
  block : ∀ j, j ≠ g → w'.heap[j]? = w.heap[j]?
theorem But1.trans {g : Nat} {w w1 w2 : World} (h : But1 g w w1) (h' : But1 g w1 w2) : But1 g w w2 :=
  ⟨h'.os.trans h.os, h'.tape.trans h.tape, h'.output.trans h.output, h'.size.trans h.size, fun j hj => (h'.block j hj).trans (h.block j hj)⟩

theorem updi (k : Int) (v : Value) (g : Nat) (es : Array MapEntry) (clock : Nat) (w : World) (hb : w.heap[g]? = some (.map es clock)) (hf : Instr.findNow (.int .i64) (.int .i64 k) es.toList 0 = some none) :
    ∃ w', (Instr.mapUpdate 76 (.map (some g)) (.int .i64 k) v).run Tryz.prog w = .ok () w' ∧ w'.heap[g]? = some (.map (es.push ⟨.int .i64 k, v, clock⟩) (clock + 1)) ∧ But1 g w w' := by
  refine ⟨{ w with heap := w.heap.setIfInBounds g (.map (es.push ⟨.int .i64 k, v, clock⟩) (clock + 1)) }, ?_, ?_, ?_⟩
  · unfold Instr.mapUpdate
    simp only [Sem.run_bind, run_underlying Tryz.underlying76, Result.andThen_ok, MapKept.run_getObj_map hb, checki, findi k es.toList none hf w, MapKept.run_setObj_map _ hb]
  · have hl := (Array.getElem?_eq_some_iff.1 hb).1
    simp [hl]
  · refine ⟨rfl, rfl, rfl, by simp, fun j hj => ?_⟩
    show (w.heap.setIfInBounds g _)[j]? = _
    rw [Array.getElem?_setIfInBounds, if_neg (fun e => hj e.symm)]
theorem lookup_kind (t g : Nat) (k : Int) (v : Value) (i : Nat) (clock : Nat) (w : World) (hb : w.heap[g]? = some (.map (KES t) clock)) (hf : Instr.findNow (.int .i64) (.int .i64 k) (KES t).toList 0 = some (some (i, v))) :
    (Instr.lookup 76 (.map (some g)) (.int .i64 k) true).run Tryz.prog w = .ok (.tuple #[v, .bool true]) w := by
  unfold Instr.lookup
  simp only [Sem.run_bind, run_underlying Tryz.underlying76, Result.andThen_ok, MapKept.run_getObj_map hb, checki, findi k (KES t).toList _ hf w, Sem.run_pure, if_true]
theorem lookup_none (t g : Nat) (k : Int) (clock : Nat) (w : World) (hb : w.heap[g]? = some (.map (KES t) clock)) (hf : Instr.findNow (.int .i64) (.int .i64 k) (KES t).toList 0 = some none) :
    ∃ v, (Instr.lookup 76 (.map (some g)) (.int .i64 k) true).run Tryz.prog w = .ok (.tuple #[v, .bool false]) w := by
  have hz : (zeroValue 118).run Tryz.prog w = .ok .nilFunc w := by kernel_rfl
  refine ⟨.nilFunc, ?_⟩
  unfold Instr.lookup
  simp only [Sem.run_bind, run_underlying Tryz.underlying76, Result.andThen_ok, MapKept.run_getObj_map hb, checki, findi k (KES t).toList _ hf w, Sem.run_pure, if_true, hz]

theorem make_kinds (w : World) : (Instr.makeMap 76 none).run Tryz.prog w = .ok (.map (some w.heap.size)) (w.alloc (.map #[] 0)) := by
  unfold Instr.makeMap
  simp [run_underlying Tryz.underlying76, go_sem]

set_option maxRecDepth 20000 in
set_option maxHeartbeats 4000000 in
theorem new_any (ax : Option Addr) (ln cp : Nat) (rd : Bool) (w : World) :
    Calls Tryz.prog 34 #[.slice ax ln cp, .bool rd] w fun e w' => e = .returned (.pointer (some ⟨w.heap.size, 0, none⟩)) ∧ Below w.heap.size w w' ∧ w'.heap[w.heap.size]? = some (.cells #[.slice ax ln cp, .bool rd, .int .i64 0, .slice (some ⟨w.heap.size + 1, 0, none⟩) 5 5, .map (some (w.heap.size + 2))] 78) ∧ w'.heap[w.heap.size + 1]? = some (GPO w.heap.size) ∧ w'.heap[w.heap.size + 2]? = some (.map (KES w.heap.size) 5) := by
  have hmf : ∀ (fn : Fn) (first cap : Array Value) (w : World), (Instr.makeFunc fn first cap).run Tryz.prog w = .ok (.func fn first cap) w := fun _ _ _ _ => rfl
  have hmm := make_kinds ((w.alloc (.cells #[.slice ax ln cp, .bool rd, .int .i64 0, .slice (some ⟨w.heap.size + 1, 0, none⟩) 5 5, .map none] 78)).alloc (GPO w.heap.size))
  rw [show ((w.alloc (.cells #[.slice ax ln cp, .bool rd, .int .i64 0, .slice (some ⟨w.heap.size + 1, 0, none⟩) 5 5, .map none] 78)).alloc (GPO w.heap.size)).heap.size = w.heap.size + 1 + 1 by simp] at hmm
  obtain ⟨W, hW⟩ : ∃ W, W = ((w.alloc (.cells #[.slice ax ln cp, .bool rd, .int .i64 0, .slice (some ⟨w.heap.size + 1, 0, none⟩) 5 5, .map none] 78)).alloc (GPO w.heap.size)).alloc (.map #[] 0) := ⟨_, rfl⟩
  have hB : Below w.heap.size w W := by rw [hW]; exact bw3 _ _ _ _
  have m0 : W.heap[w.heap.size + 1 + 1]? = some (.map #[] 0) := by rw [hW]; exact blk_newn (by simp) _
  have p0 : W.heap[w.heap.size + 1]? = some (GPO w.heap.size) := by rw [hW]; exact blk_old (blk_newn (by simp) _) _
  have t0 : W.heap[w.heap.size]? = some (.cells #[.slice ax ln cp, .bool rd, .int .i64 0, .slice (some ⟨w.heap.size + 1, 0, none⟩) 5 5, .map none] 78) := by rw [hW]; exact blk_old (blk_old (blk_new _ _) _) _
  obtain ⟨W1, u1, m1, b1⟩ := updi 1 (MV 64 w.heap.size) (w.heap.size + 1 + 1) #[] 0 W m0 rfl
  obtain ⟨W2, u2, m2, b2⟩ := updi 2 (MV 64 w.heap.size) (w.heap.size + 1 + 1) _ 1 W1 m1 rfl
  obtain ⟨W3, u3, m3, b3⟩ := updi 3 (MV 65 w.heap.size) (w.heap.size + 1 + 1) _ 2 W2 m2 rfl
  obtain ⟨W4, u4, m4, b4⟩ := updi 4 (MV 66 w.heap.size) (w.heap.size + 1 + 1) _ 3 W3 m3 rfl
  obtain ⟨W5, u5, m5, b5⟩ := updi 8 (MV 64 w.heap.size) (w.heap.size + 1 + 1) _ 4 W4 m4 rfl
  have hb5 := (((b1.trans b2).trans b3).trans b4).trans b5
  have T5 : Hid (W5.heap[w.heap.size]? = some (.cells #[.slice ax ln cp, .bool rd, .int .i64 0, .slice (some ⟨w.heap.size + 1, 0, none⟩) 5 5, .map none] 78)) := (hb5.block _ (by omega)).trans t0
  have P5 : Hid (W5.heap[w.heap.size + 1]? = some (GPO w.heap.size)) := (hb5.block _ (by omega)).trans p0
  have M5 : Hid (W5.heap[w.heap.size + 1 + 1]? = some (.map (KES w.heap.size) 5)) := m5
  have HB5 : Hid (Below w.heap.size w W5) := ⟨hb5.os.trans hB.os, hb5.tape.trans hB.tape, hb5.output.trans hB.output, by rw [hb5.size]; exact hB.size, fun j hj => (hb5.block j (by omega)).trans (hB.block j hj)⟩
  have c4 : W5.cell? ⟨w.heap.size, 4, none⟩ = some (.map none) := (blk_cell T5.out 4).trans rfl
  have z := blk_frozen T5.out
  clear m0 p0 t0 m1 m2 m3 m4 m5 b1 b2 b3 b4 b5 hb5 hB
  rw [← hW] at hmm
  clear hW
  go_enter Tryz.func34, Tryz.ntmps34
  go_wp2_with fail
  go_ret
  refine ⟨rfl, ⟨HB5.out.os, HB5.out.tape, HB5.out.output, by simpa using HB5.out.size, fun j hj => by rw [Below.heap_setCell _ _ _ _ (by show j ≠ w.heap.size; omega)]; exact HB5.out.block j hj⟩, blk_set T5.out 4 _, blk_other P5.out (by omega) _ _, blk_other M5.out (by omega) _ _⟩
end Go.Proofs.YtfkeklndcjkgcaaGreatDoor
