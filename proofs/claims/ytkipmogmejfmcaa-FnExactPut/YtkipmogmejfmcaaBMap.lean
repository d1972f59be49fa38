/-
  OWN WORK. The program's book: values held against each other by ==, the map from key to place, the making of a book, the search in it.
-/
import Derived.Test.YtkipmogmejfmcaaTabT
import Derived.Laws.StructEq
import Derived.Maps.Own
import Derived.Deep.RegionWith
import Derived.RegionTactic
import Derived.ArgAppend
namespace Go.Proofs.Ytkipmogmejfmcaa
open Go.RowKit
attribute [local go_sem] run_store_float
set_option linter.unusedVariables false

/-- Two values that == holds for equal. -/
def eqb (a b : VD) : Bool := (a.k == b.k) && ((a.n == b.n) && ((FloatKind.f64.format.order a.f b.f == some .eq) && ((a.s.toList == b.s.toList) && (a.r == b.r))))

abbrev VD.v (a : VD) : Value := VV a.k a.n a.f a.s a.r

theorem und_value : Try.prog.underlying 27 = some (.struct #[{ name := "Kind", type := 3, offset := 0, embedded := false, tag := "", pkgPath := "", byteOffset := 0 }, { name := "Num", type := 2, offset := 1, embedded := false, tag := "", pkgPath := "", byteOffset := 8 }, { name := "Flt", type := 22, offset := 2, embedded := false, tag := "", pkgPath := "", byteOffset := 16 }, { name := "Str", type := 9, offset := 3, embedded := false, tag := "", pkgPath := "", byteOffset := 24 }, { name := "Ref", type := 3, offset := 4, embedded := false, tag := "", pkgPath := "", byteOffset := 40 }]) := by kernel_rfl

set_option maxRecDepth 20000 in
theorem run_eqv (a b : VD) (w : World) (d : Nat) : (Op.equalIn (d + 1 + 1) 27 a.v b.v).run Try.prog w = .ok (eqb a b) w := by
  rw [run_equalIn_struct w (d + 1) 27 _ _ (by kernel_rfl) (by kernel_rfl)]
  have hF : (Try.prog.fieldsOf 27).toList = [{ name := "Kind", type := 3, offset := 0, embedded := false, tag := "", pkgPath := "", byteOffset := 0 }, { name := "Num", type := 2, offset := 1, embedded := false, tag := "", pkgPath := "", byteOffset := 8 }, { name := "Flt", type := 22, offset := 2, embedded := false, tag := "", pkgPath := "", byteOffset := 16 }, { name := "Str", type := 9, offset := 3, embedded := false, tag := "", pkgPath := "", byteOffset := 24 }, { name := "Ref", type := 3, offset := 4, embedded := false, tag := "", pkgPath := "", byteOffset := 40 }] := by kernel_rfl
  rw [hF]
  simp [Op.eqFields, go_sem, run_equalIn_float, eqb]
  by_cases h1 : a.k = b.k
  · by_cases h2 : a.n = b.n
    · by_cases h3 : FloatKind.f64.format.order a.f b.f = some .eq
      · by_cases h4 : a.s.toList = b.s.toList
        · by_cases h5 : a.r = b.r
          · simp [h1, h2, h3, h4, h5]
          · simp [h1, h2, h3, h4, h5]
        · simp [h1, h2, h3, h4]
      · simp [h1, h2, h3]
    · simp [h1, h2]
  · simp [h1]

set_option maxRecDepth 20000 in
theorem run_check (a : VD) (em : Bool) (w : World) (d : Nat) : (Instr.checkKey em (d + 1 + 1) 27 a.v).run Try.prog w = .ok () w := by
  rw [Instr.checkKey]
  simp only [Sem.run_bind, run_underlying und_value, Result.andThen_ok]
  rw [← Array.forIn_toList]
  simp [List.forIn_cons, Instr.checkKey, go_sem]

/-- The place of the first pair whose key is equal. -/
def eidx (q : VD) : List PD → Nat → Int
  | [], _ => -1
  | p :: ps, i => if eqb q p.key = true then (i : Int) else eidx q ps (i + 1)

/-- The entries of the map: each key with its place. -/
def Ents (es : List MapEntry) (ps : List PD) (i : Nat) : Prop := es.length = ps.length ∧ ∀ (j : Nat) (p : PD) (e : MapEntry), ps[j]? = some p → es[j]? = some e → e.key = p.key.v ∧ e.val = .int .i64 ((i + j : Nat) : Int)

theorem Ents.tail {e : MapEntry} {es : List MapEntry} {p : PD} {ps : List PD} {i : Nat} (h : Ents (e :: es) (p :: ps) i) : e.key = p.key.v ∧ e.val = .int .i64 (i : Int) ∧ Ents es ps (i + 1) := by
  obtain ⟨h1, h2⟩ := h
  obtain ⟨h3, h4⟩ := h2 0 p e rfl rfl
  refine ⟨h3, by simpa using h4, by simpa using h1, fun j p' e' hp he => ?_⟩
  obtain ⟨h5, h6⟩ := h2 (j + 1) p' e' (by simpa using hp) (by simpa using he)
  exact ⟨h5, by rw [h6]; congr 2; omega⟩

theorem eidx_cases (q : VD) (ps : List PD) (i : Nat) : eidx q ps i = -1 ∨ ∃ m : Nat, eidx q ps i = ((i + m : Nat) : Int) ∧ m < ps.length := by
  induction ps generalizing i with
  | nil => exact .inl rfl
  | cons p ps ih =>
    unfold eidx
    split
    · exact .inr ⟨0, by simp, by simp⟩
    · rcases ih (i + 1) with h | ⟨m, h1, h2⟩
      · exact .inl h
      · exact .inr ⟨m + 1, by rw [h1]; congr 1; omega, by simp; omega⟩

set_option maxRecDepth 20000 in
theorem run_ask (q : VD) (w : World) (ps : List PD) : ∀ (es : List MapEntry) (i k : Nat), Ents es ps i →
    (Instr.findAsking 27 q.v es k).run Try.prog w = .ok (if eidx q ps i < 0 then none else some (k + (eidx q ps i).toNat - i, .int .i64 (eidx q ps i))) w := by
  induction ps with
  | nil =>
    intro es i k h
    obtain rfl : es = [] := List.length_eq_zero_iff.1 h.1
    simp [Instr.findAsking, eidx]
  | cons p ps ih =>
    intro es i k h
    match es, h with
    | [], h => exact absurd h.1 (by simp)
    | e :: es, h =>
      obtain ⟨h1, h2, h3⟩ := h.tail
      have hq : (Op.equal 27 q.v e.key).run Try.prog w = .ok (eqb q p.key) w := by
        rw [h1]; exact run_eqv q p.key w 9998
      rw [Instr.findAsking]
      simp only [Sem.run_bind, hq, Result.andThen_ok]
      by_cases hb : eqb q p.key = true
      · simp [hb, eidx, h2]
      · have hb' : eqb q p.key = false := by simpa using hb
        have := ih es (i + 1) (k + 1) h3
        simp only [hb', eidx, Bool.false_eq_true, if_false] at this ⊢
        rw [this]
        rcases eidx_cases q ps (i + 1) with h0 | ⟨m, h0, _⟩
        · simp [h0]
        · rw [h0]
          have : ¬ (((i + 1 + m : Nat) : Int) < 0) := by omega
          rw [if_neg this, if_neg this]
          congr 3
          simp
          omega

set_option maxRecDepth 20000 in
theorem run_find (q : VD) (w : World) (ps : List PD) (es : List MapEntry) (h : Ents es ps 0) :
    (Instr.findKey 27 q.v es).run Try.prog w = .ok (if eidx q ps 0 < 0 then none else some ((eidx q ps 0).toNat, .int .i64 (eidx q ps 0))) w := by
  have ha := run_ask q w ps es 0 0 h
  simp only [Nat.zero_add, Nat.sub_zero] at ha
  unfold Instr.findKey
  simp only [Sem.run_bind, run_underlying und_value, Result.andThen_ok]
  match es, h, ha with
  | [], h, ha =>
    obtain rfl : ps = [] := List.length_eq_zero_iff.1 h.1.symm
    simp [Instr.findNow, eidx]
  | e :: es, h, ha => simpa [Instr.findNow, Instr.sameNow] using ha

/-- The map's block. -/
def MapAt (w : World) (mb : Nat) (ps : List PD) : Prop := ∃ es clock, w.heap[mb]? = some (.map es clock) ∧ Ents es.toList ps 0

set_option maxRecDepth 20000 in
theorem run_look (q : VD) (w : World) (mb : Nat) (ps : List PD) (h : MapAt w mb ps) :
    (Instr.lookup 116 (.map (some mb)) q.v true).run Try.prog w = .ok (.tuple #[.int .i64 (if eidx q ps 0 < 0 then 0 else eidx q ps 0), .bool (!decide (eidx q ps 0 < 0))]) w := by
  obtain ⟨es, clock, hb, he⟩ := h
  unfold Instr.lookup
  have hz : (zeroValue 3).run Try.prog w = .ok (.int .i64 0) w := by kernel_rfl
  simp only [Sem.run_bind, run_underlying Try.underlying116, Result.andThen_ok, MapKept.run_getObj_map hb, run_check q es.isEmpty w 9998, run_find q w ps es.toList he, Sem.run_pure]
  by_cases h0 : eidx q ps 0 < 0
  · simp [h0, hz]
  · simp [h0]

theorem m_key (d : Nat) (v : Value) (w : World) : (method (d + 1) 60 v "loop.example/punch/impl.key").run Try.prog w = .ok (149, v) w := by kernel_rfl

set_option maxRecDepth 20000 in
set_option maxHeartbeats 400000 in
theorem ikey_any (p : PD) (w : World) : Calls Try.prog 149 #[PVal p] w fun e w' => e = .returned p.key.v ∧ Below w.heap.size w w' := by
  go_enter Try.func149, Try.ntmps149
  go_wp2
  exact bodyPost_ret (v := p.key.v) (by simp [results, Try.results149, go_sem]) rfl ⟨rfl, bw2 _ _ _⟩

theorem MapAt.later {w wx : World} {mb : Nat} {ps : List PD} (hb : Below w.heap.size w wx) (h : MapAt w mb ps) : MapAt wx mb ps := by
  obtain ⟨es, clock, h1, h2⟩ := h
  exact ⟨es, clock, (hb.block mb (Array.getElem?_eq_some_iff.1 h1).1).trans h1, h2⟩
theorem MapAt.drew {w : World} {mb : Nat} {ps : List PD} (h : MapAt w mb ps) : MapAt w.drew mb ps := h

theorem boxv (w : World) (q : VD) (t : TypeId) : ∃ w1, w1 = w.alloc (.cells #[.int .i64 q.k, .int .i64 q.n, .float .f64 q.f, .string q.s, .int .i64 q.r] t) ∧ Below w.heap.size w w1 ∧ w1.cell? ⟨w.heap.size, 0, none⟩ = some (.int .i64 q.k) ∧ w1.cell? ⟨w.heap.size, 1, none⟩ = some (.int .i64 q.n) ∧ w1.cell? ⟨w.heap.size, 2, none⟩ = some (.float .f64 q.f) ∧ w1.cell? ⟨w.heap.size, 3, none⟩ = some (.string q.s) ∧ w1.cell? ⟨w.heap.size, 4, none⟩ = some (.int .i64 q.r) := by
  refine ⟨_, rfl, bw1 _ _, ?_, ?_, ?_, ?_, ?_⟩ <;> simp [go_sem]

set_option maxRecDepth 20000 in
set_option maxHeartbeats 400000 in
theorem find_any (q : VD) (bk mb : Nat) (ps : List PD) (w : World) (hm : MapAt w mb ps) (c1 : w.cell? ⟨bk, 1, none⟩ = some (.map (some mb))) :
    Calls Try.prog 108 #[.pointer (some ⟨bk, 0, none⟩), q.v] w fun e w' => e = .returned (.int .i64 (eidx q ps 0)) ∧ Below w.heap.size w w' := by
  obtain ⟨w1, hw, hb, d0, d1, d2, d3, d4⟩ := boxv w q 27
  have hlk := run_look q w1.drew mb ps (MapAt.later hb.drew hm)
  replace c1 := cell_later hb c1
  clear hm
  by_cases h0 : eidx q ps 0 < 0
  · have hn : eidx q ps 0 = -1 := by rcases eidx_cases q ps 0 with h | ⟨m, h, _⟩ <;> omega
    rw [hn] at hlk ⊢
    replace hlk : (Instr.lookup 116 (.map (some mb)) q.v true).run Try.prog w1.drew = .ok (.tuple #[.int .i64 0, .bool false]) w1.drew := hlk
    clear h0 hn
    go_enter Try.func108, Try.ntmps108
    go_wp2_with fail
    rw [← hw]; clear hw
    go_region
    go_wp2_with fail
    go_ret
    exact ⟨rfl, hb.drew⟩
  · obtain ⟨m, hn⟩ : ∃ m : Int, eidx q ps 0 = m := ⟨_, rfl⟩
    rw [hn] at hlk h0 ⊢
    replace hlk : (Instr.lookup 116 (.map (some mb)) q.v true).run Try.prog w1.drew = .ok (.tuple #[.int .i64 m, .bool true]) w1.drew := by rw [hlk]; simp [h0]
    clear h0 hn
    go_enter Try.func108, Try.ntmps108
    go_wp2_with fail
    rw [← hw]; clear hw
    go_region
    go_wp2_with fail
    go_ret
    exact ⟨rfl, hb.drew⟩

theorem make_room (n : Nat) (hn : n ≤ 1048577) : ∃ arr : Array Value, arr.size = n * 11 ∧ ∀ w, (Instr.makeSlice 53 (.int .i64 0) (.int .i64 (n : Int))).run Try.prog w = .ok (.slice (some ⟨w.heap.size, 0, none⟩) 0 n) (w.alloc (.cells arr 60)) := by
  have hc : (Try.prog.info? 60).map (fun i => (i.zero.isSome, i.size, i.bytes)) = some (true, 11, 104) := by kernel_rfl
  cases hi : Try.prog.info? 60 with
  | none => rw [hi] at hc; cases hc
  | some i =>
    rw [hi] at hc
    simp only [Option.map_some, Option.some.injEq, Prod.mk.injEq] at hc
    obtain ⟨h1, h2, h3⟩ := hc
    obtain ⟨z, hz⟩ := Option.isSome_iff_exists.1 h1
    refine ⟨madeCells z.cells (n * i.size), ?_, fun w => ?_⟩
    · rw [size_madeCells, h2]
    · have hr := run_make (P := Try.prog) w 53 60 i z Try.underlying53 hi hz .i64 .i64 0 (n : Int) (by omega) (by omega) (by rw [h3]; omega) (by omega)
      simpa using hr

theorem make_map (n : Int) (w : World) : (Instr.makeMap 116 (some (.int .i64 n))).run Try.prog w = .ok (.map (some w.heap.size)) (w.alloc (.map #[] 0)) := by
  unfold Instr.makeMap
  simp [run_underlying Try.underlying116, go_sem]

set_option maxRecDepth 20000 in
set_option maxHeartbeats 400000 in
theorem newrows_any (n : Nat) (hn : n ≤ 1048577) (w : World) :
    Calls Try.prog 122 #[.int .i64 (n : Int)] w fun e w' => ∃ lb mb arr, e = .returned (.agg #[.slice (some ⟨lb, 0, none⟩) 0 n, .map (some mb)]) ∧ w.heap.size ≤ lb ∧ w.heap.size ≤ mb ∧ lb ≠ mb ∧ w'.heap[lb]? = some (.cells arr 60) ∧ arr.size = n * 11 ∧ w'.heap[mb]? = some (.map #[] 0) ∧ Below w.heap.size w w' := by
  obtain ⟨arr, hsz, hmk⟩ := make_room n hn
  have hmm := make_map (n : Int)
  go_enter Try.func122, Try.ntmps122
  go_wp2_with fail
  go_region
  · clear hmk hmm
    go_wp2_with fail
    obtain ⟨h0, h1, h2⟩ := heap3 w (.cells #[.slice (some ⟨w.heap.size + 1, 0, none⟩) 0 n, .map (some (w.heap.size + 1 + 1))] 118) (.cells arr 60) (.map #[] 0)
    exact bodyPost_ret (v := .agg #[.slice (some ⟨w.heap.size + 1, 0, none⟩) 0 n, .map (some (w.heap.size + 1 + 1))]) (by simp [results, Try.results122, go_sem]) rfl ⟨w.heap.size + 1, w.heap.size + 1 + 1, arr, rfl, by omega, by omega, by omega, h1, hsz, h2, (bw3 _ _ _ _).drew⟩
  · clear hmk hmm
    go_wp2_with fail
    obtain ⟨h0, h1, h2⟩ := heap3 w (.cells #[.slice (some ⟨w.heap.size + 1 + 1, 0, none⟩) 0 n, .map (some (w.heap.size + 1))] 118) (.map #[] 0) (.cells arr 60)
    exact bodyPost_ret (v := .agg #[.slice (some ⟨w.heap.size + 1 + 1, 0, none⟩) 0 n, .map (some (w.heap.size + 1))]) (by simp [results, Try.results122, go_sem]) rfl ⟨w.heap.size + 1 + 1, w.heap.size + 1, arr, rfl, by omega, by omega, by omega, h2, hsz, h1, (bw3 _ _ _ _).drew⟩

set_option maxRecDepth 20000 in
set_option maxHeartbeats 400000 in
theorem newbook_any (n : Nat) (hn : n ≤ 1048577) (turns : Int) (w : World) :
    Calls Try.prog 106 #[.int .i64 (n : Int), .int .i64 turns] w fun e w' => ∃ bk lb mb arr, e = .returned (.pointer (some ⟨bk, 0, none⟩)) ∧ w.heap.size ≤ bk ∧ w.heap.size ≤ lb ∧ w.heap.size ≤ mb ∧ lb ≠ mb ∧ bk ≠ lb ∧ bk ≠ mb ∧ w'.heap[bk]? = some (.cells #[.slice (some ⟨lb, 0, none⟩) 0 n, .map (some mb), .int .i64 turns] 120) ∧ w'.heap[lb]? = some (.cells arr 60) ∧ arr.size = n * 11 ∧ w'.heap[mb]? = some (.map #[] 0) ∧ Below w.heap.size w w' := by
  go_enter Try.func106, Try.ntmps106
  go_wp2_with fail
  refine (newrows_any n hn _).mono ?_
  rintro e w1 ⟨lb, mb, arr, rfl, h1, h2, h3, h4, h5, h6, hx⟩
  have l1 := (Array.getElem?_eq_some_iff.1 h4).1
  have l2 := (Array.getElem?_eq_some_iff.1 h6).1
  go_wp2_with fail
  go_ret
  have hb := hx.alloc hx.size (.cells #[.slice (some ⟨lb, 0, none⟩) 0 n, .map (some mb), .int .i64 turns] 120)
  refine ⟨w1.heap.size, lb, mb, arr, rfl, hx.size, h1, h2, h3, by omega, by omega, ?_, ?_, h5, ?_, hb⟩
  · show (w1.heap.push _)[w1.heap.size]? = _
    simp
  · show (w1.heap.push _)[lb]? = _
    rw [Array.getElem?_push, if_neg (by omega)]; exact h4
  · show (w1.heap.push _)[mb]? = _
    rw [Array.getElem?_push, if_neg (by omega)]; exact h6

/-- All but some blocks is kept. -/
structure Bt (S : List Nat) (w w' : World) : Prop where
  os : w'.os = w.os
  tape : w'.tape = w.tape
  output : w'.output = w.output
  size : w.heap.size ≤ w'.heap.size
  block : ∀ k, k < w.heap.size → k ∉ S → w'.heap[k]? = w.heap[k]?

theorem Bt.refl (S : List Nat) (w : World) : Bt S w w := ⟨rfl, rfl, rfl, Nat.le_refl _, fun _ _ _ => rfl⟩
theorem Bt.trans {S : List Nat} {a b c : World} (h : Bt S a b) (k : Bt S b c) : Bt S a c :=
  ⟨k.os.trans h.os, k.tape.trans h.tape, k.output.trans h.output, Nat.le_trans h.size k.size, fun i hi hn => (k.block i (Nat.lt_of_lt_of_le hi h.size) hn).trans (h.block i hi hn)⟩
theorem Bt.mono {S T : List Nat} {a b : World} (h : Bt S a b) (hs : ∀ x ∈ S, x ∈ T) : Bt T a b := ⟨h.os, h.tape, h.output, h.size, fun i hi hn => h.block i hi fun hx => hn (hs i hx)⟩
theorem Bt.of_below {S : List Nat} {a b : World} (h : Below a.heap.size a b) : Bt S a b := ⟨h.os, h.tape, h.output, h.size, fun i hi _ => h.block i hi⟩
theorem Bt.below {S : List Nat} {B : Nat} {a b : World} (h : Bt S a b) (hB : B ≤ a.heap.size) (hs : ∀ x ∈ S, B ≤ x) : Below B a b :=
  ⟨h.os, h.tape, h.output, h.size, fun i hi => h.block i (Nat.lt_of_lt_of_le hi hB) fun hx => absurd (hs i hx) (by omega)⟩
theorem Bt.cell {S : List Nat} {a b : World} (h : Bt S a b) {p : Addr} {v : Value} (hp : p.block ∉ S) (hv : a.cell? p = some v) : b.cell? p = some v := by
  rw [World.cell?_of_block (w := a) (h.block p.block (World.block_lt_of_cell? _ _ hv) hp)]; exact hv
theorem Bt.drew {S : List Nat} {a b : World} (h : Bt S a b) : Bt S a b.drew := ⟨h.os, h.tape, h.output, h.size, h.block⟩
theorem Bt.setCell {S : List Nat} {a b : World} (h : Bt S a b) {p : Addr} (hp : p.block ∈ S) (u : Value) : Bt S a (b.setCell p u) :=
  ⟨h.os, h.tape, h.output, by simpa using h.size, fun i hi hn => by
    have hne : i ≠ p.block := fun e => hn (by rw [e]; exact hp)
    rw [Below.heap_setCell _ _ _ _ hne]; exact h.block i hi hn⟩
theorem Bt.alloc {S : List Nat} {a b : World} (h : Bt S a b) (o : Obj) : Bt S a (b.alloc o) :=
  ⟨h.os, h.tape, h.output, by have := h.size; simp; omega, fun i hi hn => by rw [Below.heap_alloc _ _ _ (Nat.lt_of_lt_of_le hi h.size)]; exact h.block i hi hn⟩

theorem Ents.snoc {es : List MapEntry} {ps : List PD} (h : Ents es ps 0) (p : PD) (e : MapEntry) (h1 : e.key = p.key.v) (h2 : e.val = .int .i64 (ps.length : Int)) : Ents (es ++ [e]) (ps ++ [p]) 0 := by
  refine ⟨by simp [h.1], fun j p' e' hp he => ?_⟩
  by_cases hj : j < ps.length
  · rw [List.getElem?_append_left hj] at hp
    rw [List.getElem?_append_left (by rw [h.1]; exact hj)] at he
    exact h.2 j p' e' hp he
  · have hj' : j = ps.length := by
      have := (List.getElem?_eq_some_iff.1 hp).1
      simp at this; omega
    subst hj'
    rw [List.getElem?_append_right (Nat.le_refl _)] at hp
    rw [List.getElem?_append_right (by rw [h.1]; exact Nat.le_refl _)] at he
    simp [h.1] at hp he
    subst hp he
    exact ⟨h1, by rw [h2]; simp⟩

set_option maxRecDepth 20000 in
theorem run_upd_new (p : PD) (w : World) (mb : Nat) (ps : List PD) (h : MapAt w mb ps) (h0 : eidx p.key ps 0 < 0) :
    ∃ w', (Instr.mapUpdate 116 (.map (some mb)) p.key.v (.int .i64 (ps.length : Int))).run Try.prog w = .ok () w' ∧ MapAt w' mb (ps ++ [p]) ∧ Bt [mb] w w' := by
  obtain ⟨es, clock, hb, he⟩ := h
  refine ⟨{ w with heap := w.heap.setIfInBounds mb (.map (es.push { key := p.key.v, val := .int .i64 (ps.length : Int), born := clock }) (clock + 1)) }, ?_, ?_, ?_⟩
  · unfold Instr.mapUpdate
    simp only [Sem.run_bind, run_underlying Try.underlying116, Result.andThen_ok, MapKept.run_getObj_map hb, run_check p.key false w 9998, run_find p.key w ps es.toList he, if_pos h0, MapKept.run_setObj_map _ hb]
  · have hl := (Array.getElem?_eq_some_iff.1 hb).1
    refine ⟨es.push { key := p.key.v, val := .int .i64 (ps.length : Int), born := clock }, clock + 1, ?_, ?_⟩
    · simp [hl]
    · rw [Array.toList_push]; exact he.snoc p _ rfl rfl
  · refine ⟨rfl, rfl, rfl, by simp, fun k hk hn => ?_⟩
    simp at hn
    show (w.heap.setIfInBounds mb _)[k]? = _
    rw [Array.getElem?_setIfInBounds, if_neg (fun e => hn e.symm)]

set_option maxRecDepth 20000 in
theorem run_app (p : PD) (lb m cap nb : Nat) (ar : Array Value) (w : World) (ty : TypeId) (hr : w.heap[lb]? = some (.cells ar 60)) (hs : ar.size = cap * 11) (hm : m < cap) (hn : w.heap[nb]? = some (.cells p.cells.toArray 60)) :
    ∃ w', (Builtin.append_ #[53, 53] ty #[.slice (some ⟨lb, 0, none⟩) m cap, .slice (some ⟨nb, 0, none⟩) 1 1]).run Try.prog w = .ok (.slice (some ⟨lb, 0, none⟩) (m + 1) cap) w' ∧ w'.heap[lb]? = some (.cells (put11 ar (m * 11) p) 60) ∧ Bt [lb] w w' := by
  have hc : (Try.prog.info? 60).map (fun i => i.size) = some 11 := by kernel_rfl
  cases hi : Try.prog.info? 60 with
  | none => rw [hi] at hc; cases hc
  | some i =>
    rw [hi] at hc
    simp only [Option.map_some, Option.some.injEq] at hc
    have hrun := run_append_room_cells (P := Try.prog) w 53 ty 60 i Try.underlying53 hi lb 0 m cap ⟨nb, 0, none⟩ 1 1 p.cells (by rw [hc]; rfl) (fun j u hu => by
      show w.cell? (Addr.add ⟨nb, 0, none⟩ j) = some u
      rw [Addr.add_lit, blk_cell hn]; simpa using hu) (by
      intro u hu
      simp only [PD.cells, VD.cells, List.cons_append, List.nil_append, List.mem_cons, List.not_mem_nil, or_false] at hu
      rcases hu with rfl | rfl | rfl | rfl | rfl | rfl | rfl | rfl | rfl | rfl | rfl <;> rfl) (by omega) (fun j hj => by
      rw [cells_len] at hj
      rw [blk_cell hr, hc, Array.getElem?_eq_getElem (by omega)]; rfl) (fun j _ => blk_frozen hr _)
    refine ⟨_, hrun, ?_, ?_⟩
    · rw [hc, Nat.zero_add]
      exact (blk_set (blk_set (blk_set (blk_set (blk_set (blk_set (blk_set (blk_set (blk_set (blk_set (blk_set hr (m * 11) (.int .i64 p.key.k)) (m * 11 + 1) (.int .i64 p.key.n)) (m * 11 + 2) (.float .f64 p.key.f)) (m * 11 + 3) (.string p.key.s)) (m * 11 + 4) (.int .i64 p.key.r)) (m * 11 + 5) (.int .i64 p.val.k)) (m * 11 + 6) (.int .i64 p.val.n)) (m * 11 + 7) (.float .f64 p.val.f)) (m * 11 + 8) (.string p.val.s)) (m * 11 + 9) (.int .i64 p.val.r)) (m * 11 + 10) (.int .i64 p.turn))
    · rw [hc, Nat.zero_add]
      have e : [lb] = [lb] := rfl
      exact (((((((((((Bt.refl [lb] w).setCell (p := ⟨lb, m * 11, none⟩) (by simp) (.int .i64 p.key.k)).setCell (p := ⟨lb, m * 11 + 1, none⟩) (by simp) (.int .i64 p.key.n)).setCell (p := ⟨lb, m * 11 + 2, none⟩) (by simp) (.float .f64 p.key.f)).setCell (p := ⟨lb, m * 11 + 3, none⟩) (by simp) (.string p.key.s)).setCell (p := ⟨lb, m * 11 + 4, none⟩) (by simp) (.int .i64 p.key.r)).setCell (p := ⟨lb, m * 11 + 5, none⟩) (by simp) (.int .i64 p.val.k)).setCell (p := ⟨lb, m * 11 + 6, none⟩) (by simp) (.int .i64 p.val.n)).setCell (p := ⟨lb, m * 11 + 7, none⟩) (by simp) (.float .f64 p.val.f)).setCell (p := ⟨lb, m * 11 + 8, none⟩) (by simp) (.string p.val.s)).setCell (p := ⟨lb, m * 11 + 9, none⟩) (by simp) (.int .i64 p.val.r)).setCell (p := ⟨lb, m * 11 + 10, none⟩) (by simp) (.int .i64 p.turn)
end Go.Proofs.Ytkipmogmejfmcaa
