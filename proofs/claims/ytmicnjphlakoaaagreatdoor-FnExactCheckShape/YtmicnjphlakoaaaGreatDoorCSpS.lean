/-
  OWN WORK. The specification's CheckShape.
-/
import Derived.Test.YtmicnjphlakoaaaGreatDoorCSpP
import Derived.Laws.OwnMore
namespace Go.Proofs.YtmicnjphlakoaaaGreatDoor
open Go.RowKit
attribute [local go_sem] run_store_float
set_option linter.unusedVariables false
set_option linter.unusedSimpArgs false

/-! ### A list of bools in memory -/
def mb (l : List Bool) : Array Value := (l.map Value.bool).toArray
theorem mb_get (l : List Bool) (j : Nat) (h : j < l.length) : (mb l)[j]? = some (.bool (l.getD j false)) := by
  unfold mb
  simp [List.getD_eq_getElem?_getD, List.getElem?_eq_getElem h]
theorem mb_set (l : List Bool) (j : Nat) (b : Bool) : (mb l).setIfInBounds j (.bool b) = mb (l.set j b) := by
  unfold mb
  simp [List.map_set]
theorem make_bool (len : Nat) (hlen : len ≤ 1048576) (w : World) : (Instr.makeSlice 37 (.int .i64 (len : Int)) (.int .i64 (len : Int))).run Tryz.prog w = .ok (.slice (some ⟨w.heap.size, 0, none⟩) len len) (w.alloc (.cells (mb (List.replicate len false)) 4)) := by
  have hc : (Tryz.prog.info? 4).map (fun i => (i.zero, i.size, i.bytes)) = some (some (.bool false), 1, 1) := by kernel_rfl
  cases hi : Tryz.prog.info? 4 with
  | none => rw [hi] at hc; cases hc
  | some i =>
    rw [hi] at hc
    simp only [Option.map_some, Option.some.injEq, Prod.mk.injEq] at hc
    obtain ⟨h1, h2, h3⟩ := hc
    have hr := run_make (P := Tryz.prog) w 37 4 i (.bool false) Tryz.underlying37 hi h1 .i64 .i64 (len : Int) (len : Int) (by omega) (by omega) (by rw [h3]; omega) (by omega)
    have he : madeCells #[.bool false] len = mb (List.replicate len false) := by
      apply Array.toList_inj.1
      rw [toList_madeCells_one]
      simp [mb]
    have hr' := hr
    simp only [Int.toNat_natCast, h2, Nat.mul_one] at hr'
    rw [← he]
    exact hr'

theorem parts_ok {c : List FD} (h : (partsV c).1 = 0) : ¬ badSize c ∧ fp hd0 c 0 = none ∧ fp co0 c 0 = none ∧ fp na0 c 0 = none ∧ fp (in0 c.length) c 0 = none := by
  by_cases hb : badSize c
  · rw [parts_1 hb] at h; cases h
  cases h2 : fp hd0 c 0 with
  | some x => obtain ⟨p, i⟩ := x; rw [parts_2 hb h2] at h; cases h
  | none =>
  cases h3 : fp co0 c 0 with
  | some x => obtain ⟨p, i⟩ := x; rw [parts_3 hb h2 h3] at h; cases h
  | none =>
  cases h4 : fp na0 c 0 with
  | some x => obtain ⟨p, i⟩ := x; rw [parts_4 hb h2 h3 h4] at h; cases h
  | none =>
  cases h5 : fp (in0 c.length) c 0 with
  | some x => obtain ⟨p, i⟩ := x; rw [parts_5 hb h2 h3 h4 h5] at h; cases h
  | none => exact ⟨hb, rfl, rfl, rfl, rfl⟩
theorem ins_ok {c : List FD} (h5 : fp (in0 c.length) c 0 = none) {p : Nat} {f : FD} (hp : c[p]? = some f) {q : Nat} {n : ID} (hq : f.ins[q]? = some n) : insB c.length f q n = true := by
  have := fp_none h5 p f hp
  unfold in0 at this
  split at this
  · cases this
  · have := ff_none this q n hq
    simpa using this
theorem fn_b {np : Nat} {f : FD} {q : Nat} {n : ID} (h : insB np f q n = true) (h11 : n.op = 11) : 0 ≤ n.b ∧ n.b < np := by
  simp only [insB, fieldsB, Bool.and_eq_true] at h
  have h9 := h.1.1.1.2
  rw [h11] at h9
  have hr : rl 11 1 = 9 := rfl
  rw [hr] at h9
  simp [fitsB, lohi, inR] at h9
  omega

theorem f6i_drop {c : List FD} {p : Nat} {f : FD} {mk : List Bool} {ns : List ID} {q : Nat} {n : ID} (h : ns[q]? = some n) : f6i c p f (ns.drop q) q mk = if n.op = 11 then (if fnB c p f n mk = true then f6i c p f (ns.drop (q + 1)) (q + 1) (mk.set n.b.toNat true) else (some q, mk)) else f6i c p f (ns.drop (q + 1)) (q + 1) mk := by
  obtain ⟨hlt, he⟩ := List.getElem?_eq_some_iff.1 h
  rw [List.drop_eq_getElem_cons hlt, he]
  rfl
theorem f6i_end {c : List FD} {p : Nat} {f : FD} {mk : List Bool} {ns : List ID} {q : Nat} (h : ns.length ≤ q) : f6i c p f (ns.drop q) q mk = (none, mk) := by rw [List.drop_of_length_le h]; rfl
theorem f6_drop {c : List FD} {mk : List Bool} {xs : List FC} {m : Nat} {f : FC} (h : xs[m]? = some f) : f6 c ((xs.drop m).map FC.d) m mk = match f6i c m f.d f.d.ins 0 mk with
    | (some i, k) => (some (m, i), k)
    | (none, k) => f6 c ((xs.drop (m + 1)).map FC.d) (m + 1) k := by
  obtain ⟨hlt, he⟩ := List.getElem?_eq_some_iff.1 h
  rw [List.drop_eq_getElem_cons hlt, he]
  rfl
theorem f6_end {c : List FD} {mk : List Bool} {xs : List FC} {m : Nat} (h : xs.length ≤ m) : f6 c ((xs.drop m).map FC.d) m mk = (none, mk) := by rw [List.drop_of_length_le h]; rfl
theorem shape_parts {c : List FD} (h : ¬ (partsV c).1 = 0) : shapeV c = partsV c := by unfold shapeV; rw [if_neg h]
theorem shape_6 {c : List FD} (h : (partsV c).1 = 0) {p i : Nat} {mk : List Bool} (h6 : f6 c c 0 (List.replicate c.length false) = (some (p, i), mk)) : shapeV c = (6, (p : Int), (i : Int)) := by unfold shapeV fnsV; rw [if_pos h, h6]
theorem shape_7 {c : List FD} (h : (partsV c).1 = 0) {mk : List Bool} (h6 : f6 c c 0 (List.replicate c.length false) = (none, mk)) {p : Nat} (h7 : ff (fun _ b => b) (mk.drop 1) 1 = some p) : shapeV c = (7, (p : Int), 0) := by unfold shapeV fnsV; rw [if_pos h, h6]; show (match ff (fun _ b => b) (mk.drop 1) 1 with | some p => ((7 : Int), (p : Int), (0 : Int)) | none => (0, 0, 0)) = _; rw [h7]
theorem shape_0 {c : List FD} (h : (partsV c).1 = 0) {mk : List Bool} (h6 : f6 c c 0 (List.replicate c.length false) = (none, mk)) (h7 : ff (fun _ b => b) (mk.drop 1) 1 = none) : shapeV c = (0, 0, 0) := by unfold shapeV fnsV; rw [if_pos h, h6]; show (match ff (fun _ b => b) (mk.drop 1) 1 with | some p => ((7 : Int), (p : Int), (0 : Int)) | none => (0, 0, 0)) = _; rw [h7]

set_option maxRecDepth 20000 in
set_option maxHeartbeats 8000000 in
theorem shape_any (a : Option Addr) (len cap : Nat) (xs : List FC) (w : World) (H0 : CodeAt w a xs) (hl : xs.length = len) :
    Calls Tryz.prog 5 #[.agg #[.slice a len cap]] w fun e w' => e = .returned (F3V (shapeV (xs.map FC.d))) ∧ Below w.heap.size w w' := by
  have hlen : len ≤ 1048576 := by rw [← hl]; exact H0.len
  have H : Hid (CodeAt w a xs) := H0
  have HL : Hid (xs.length = len) := hl
  obtain ⟨cs, hcs⟩ : ∃ cs, cs = xs.map FC.d := ⟨_, rfl⟩
  have HM : Hid (cs = xs.map FC.d) := hcs
  have HCL : Hid (cs.length = len) := by show cs.length = len; rw [hcs, List.length_map, hl]
  rw [← hcs]
  clear H0 hl hcs
  go_enter Tryz.func5, Tryz.ntmps5
  go_wp2_with fail
  refine (parts_any a len cap xs _ (H.out.later (bw2 _ _ _)) HL.out).mono ?_
  rw [← HM.out]
  rintro e w1 ⟨rfl, hx⟩
  have B0 : Hid (w1.heap[w.heap.size]? = some (CO (.slice a len cap))) := blk_later hx (blk_old (blk_new _ _) _)
  have B1 : Hid (w1.heap[w.heap.size + 1]? = some (FO 0 0 0)) := blk_later hx (blk_newn (by simp) _)
  have hB : Below w.heap.size w w1 := (bw2 _ _ _).trans (hx.mono (by simp; omega))
  clear hx
  obtain ⟨⟨pc, pp, pi⟩, hpv⟩ : ∃ t, t = partsV cs := ⟨_, rfl⟩
  rw [← hpv]
  simp only [F3V]
  by_cases hp0 : pc = 0
  · subst hp0
    have HP0 : Hid ((partsV cs).1 = 0) := by show (partsV cs).1 = 0; rw [← hpv]
    have HP3 : Hid (¬ badSize cs ∧ fp hd0 cs 0 = none ∧ fp co0 cs 0 = none ∧ fp na0 cs 0 = none ∧ fp (in0 cs.length) cs 0 = none) := parts_ok HP0.out
    clear hpv
    have hy := bw1 w1 (FO 0 pp pi)
    have hlt1 := blk_lt B1.out
    have a0 : (w1.alloc (FO 0 pp pi)).cell? ⟨w.heap.size, 0, none⟩ = some (.slice a len cap) := by rw [blk_cell (blk_later hy B0.out)]; rfl
    have hmk := make_bool len hlen (w1.alloc (FO 0 pp pi))
    have hy2 := bw1 (w1.alloc (FO 0 pp pi)) (.cells (mb (List.replicate len false)) 4)
    have a1 := cell_later hy2 a0
    have hBn := below_alloc (below_alloc hB (FO 0 pp pi)) (.cells (mb (List.replicate len false)) 4)
    have B0n : Hid _ := blk_later hy2 (blk_later hy B0.out)
    have B1n : Hid _ := blk_later hy2 (blk_later hy B1.out)
    obtain ⟨g, hg⟩ : ∃ g, g = w1.heap.size + 1 := ⟨_, rfl⟩
    have BMn : Hid (((w1.alloc (FO 0 pp pi)).alloc (.cells (mb (List.replicate len false)) 4)).heap[g]? = some (.cells (mb (List.replicate len false)) 4)) := blk_newn (by rw [hg]; simp) _
    have hg1 : w.heap.size + 1 < g := by omega
    go_wp2_with fail
    rw [← hg]
    clear hg hmk a0 a1 hy hy2 B0 B1 hB hlt1
    go_loopw [23] (fun i wr => ∃ (m : Nat) (mk : List Bool), m ≤ len ∧ i = .int .i64 m ∧ mk.length = len ∧ Hid (f6 cs ((xs.drop m).map FC.d) m mk = f6 cs cs 0 (List.replicate len false)) ∧ Below w.heap.size w wr ∧ Hid (wr.heap[w.heap.size]? = some (CO (.slice a len cap))) ∧ Hid (wr.heap[w.heap.size + 1]? = some (FO 0 0 0)) ∧ Hid (wr.heap[g]? = some (.cells (mb mk) 4))) (fun i _ => len - (intOf i).toNat)
    case atStart => exact ⟨0, List.replicate len false, Nat.zero_le _, rfl, List.length_replicate .., by show f6 cs ((xs.drop 0).map FC.d) 0 _ = _; rw [List.drop_zero, ← HM.out], hBn, B0n, B1n, BMn⟩
    case round =>
      clear hBn B0n B1n BMn
      obtain ⟨m, mk, hm, rfl, hml, HF, hB, B0, B1, BM⟩ := hrel
      by_cases k1 : m < len
      · obtain ⟨f, hf⟩ : ∃ f, xs[m]? = some f := ⟨xs[m]'(by rw [HL.out]; exact k1), by simp⟩
        obtain ⟨b, off, rfl, hb, hc⟩ := H.out.nine hf
        have hok := H.out.ok f (List.mem_of_getElem? hf)
        have HLI : Hid (f.lie w) := H.out.lie f (List.mem_of_getElem? hf)
        have hcm : cs[m]? = some f.d := by rw [HM.out]; exact map_at hf
        obtain ⟨hr0, hr1⟩ := regs_of HP3.out.2.1 hcm
        have HIN : Hid (∀ q n, f.d.ins[q]? = some n → insB len f.d q n = true) := fun q n hq => by have h := ins_ok HP3.out.2.2.2.2 hcm hq; rw [HCL.out] at h; exact h
        have HD : Hid ((match f6i cs m f.d f.d.ins 0 mk with | (some i, k) => (some (m, i), k) | (none, k) => f6 cs ((xs.drop (m + 1)).map FC.d) (m + 1) k) = f6 cs cs 0 (List.replicate len false)) := by have h := HF.out; rw [f6_drop hf] at h; exact h
        clear HF hf hb hcm
        obtain ⟨d, au, cu, ac, cc, ai, ci, an, cn⟩ := f
        obtain ⟨c0, c1, c2, c3, c4, c5, c6, c7, c8⟩ := hc.later hB
        simp only at c0 c1 c2 c3 c4 c5 c6 c7 c8 hok HD hr0 hr1 HIN
        have HLX : Hid (SlA w 5 ID.cells ai d.ins) := HLI.out.i
        have hlx : d.ins.length ≤ 1048576 := hok.li
        have HOK : Hid d.ok := hok
        have HCC : Hid (Cell9 w b (off + m * 9) ⟨d, au, cu, ac, cc, ai, ci, an, cn⟩) := hc
        clear hok hc HLI
        go_wp2_with fail
        clear c0 c1 c2 c3 c4 c5 c6 c7 c8
        go_loopw [31] (fun i wr => ∃ (q : Nat) (mq : List Bool), q ≤ d.ins.length ∧ i = .int .i64 q ∧ mq.length = len ∧ Hid (f6i cs m d (d.ins.drop q) q mq = f6i cs m d d.ins 0 mk) ∧ Below w.heap.size w wr ∧ Hid (wr.heap[w.heap.size]? = some (CO (.slice (some ⟨b, off, none⟩) len cap))) ∧ Hid (wr.heap[w.heap.size + 1]? = some (FO 0 0 0)) ∧ Hid (wr.heap[g]? = some (.cells (mb mq) 4))) (fun i _ => d.ins.length - (intOf i).toNat)
        case atStart => exact ⟨0, mk, Nat.zero_le _, rfl, hml, rfl, below_alloc hB _, blk_old B0.out _, blk_old B1.out _, blk_old BM.out _⟩
        case round =>
          clear hB B0 B1 BM hml
          obtain ⟨q, mq, hq, rfl, hml, HG, hB, B0, B1, BM⟩ := hrel
          by_cases k2 : q < d.ins.length
          · obtain ⟨n, hn⟩ : ∃ n, d.ins[q]? = some n := ⟨d.ins[q]'k2, by simp⟩
            obtain ⟨bi, oi, rfl, _, hci⟩ := HLX.out q n hn
            have hib := HIN.out q n hn
            have HE : Hid ((if n.op = 11 then (if fnB cs m d n mq = true then f6i cs m d (d.ins.drop (q + 1)) (q + 1) (mq.set n.b.toNat true) else (some q, mq)) else f6i cs m d (d.ins.drop (q + 1)) (q + 1) mq) = f6i cs m d d.ins 0 mk) := by have h := HG.out; rw [f6i_drop hn] at h; exact h
            have v1 : wr.cell? ⟨bi, oi + q * 5 + 1, none⟩ = some (.int .i64 n.a) := cell_later hB (hci 1 _ rfl)
            have v3 : wr.cell? ⟨bi, oi + q * 5 + 3, none⟩ = some (.int .i64 n.c) := cell_later hB (hci 3 _ rfl)
            have v4 : wr.cell? ⟨bi, oi + q * 5 + 4, none⟩ = some (.int .i64 n.d) := cell_later hB (hci 4 _ rfl)
            by_cases h11 : n.op = 11
            · obtain ⟨hb0, hb1⟩ := fn_b hib h11
              obtain ⟨nb, hnb⟩ : ∃ nb : Nat, n.b = nb := ⟨n.b.toNat, by omega⟩
              have hnl : nb < len := by omega
              have v0 : wr.cell? ⟨bi, oi + q * 5, none⟩ = some (.int .i64 11) := by rw [← h11]; exact cell_later hB (hci 0 _ rfl)
              have v2 : wr.cell? ⟨bi, oi + q * 5 + 2, none⟩ = some (.int .i64 nb) := by rw [← hnb]; exact cell_later hB (hci 2 _ rfl)
              have hnt : n.b.toNat = nb := by omega
              obtain ⟨k, hk⟩ : ∃ k, xs[nb]? = some k := ⟨xs[nb]'(by rw [HL.out]; exact hnl), by simp⟩
              have hck : cs.getD nb fd0 = k.d := by rw [HM.out, List.getD_eq_getElem?_getD, map_at hk]; rfl
              have HFB : Hid (fnB cs m d n mq = !(decide (nb ≤ m) || mq.getD nb false || !upsB d k.d.ups)) := by show fnB cs m d n mq = _; unfold fnB; rw [hnt, hck, hnb]; simp
              obtain ⟨b2, off2, hbe, _, hck9⟩ := H.out.nine hk
              simp only [Option.some.injEq, Addr.mk.injEq, and_true] at hbe
              obtain ⟨rfl, rfl⟩ := hbe
              have HK9 : Hid (Cell9 w b (off + nb * 9) k) := hck9
              have HKL : Hid (SlA w 2 UD.cells k.au k.d.ups) := (H.out.lie k (List.mem_of_getElem? hk)).u
              have HKO : Hid k.d.ok := H.out.ok k (List.mem_of_getElem? hk)
              rw [hnt, if_pos h11] at HE
              clear hck9 hk hck hnt hib hci hn HG h11 hb0 hb1
              by_cases hle : nb ≤ m
              · have HR : Hid (shapeV cs = (6, (m : Int), (q : Int))) := by
                  have h1 : fnB cs m d n mq = false := by rw [HFB.out]; simp [hle]
                  have h2 := HE.out
                  rw [h1, if_neg (by simp)] at h2
                  have h3 := HD.out
                  rw [← h2] at h3
                  rw [← HCL.out] at h3
                  exact shape_6 HP0.out h3.symm
                go_wp2_with fail
                refine (fault_b _ _ _ _).mono ?_
                rintro e w9 ⟨rfl, hx⟩
                have B1' := blk_later hx (blk_old B1.out _)
                have r0 : w9.cell? ⟨w.heap.size + 1, 0, none⟩ = some (.int .i64 0) := by rw [blk_cell B1']; rfl
                have r1 : w9.cell? ⟨w.heap.size + 1, 1, none⟩ = some (.int .i64 0) := by rw [blk_cell B1']; rfl
                have r2 : w9.cell? ⟨w.heap.size + 1, 2, none⟩ = some (.int .i64 0) := by rw [blk_cell B1']; rfl
                have z := blk_frozen B1'
                have hz := (below_alloc hB _).trans (hx.mono (below_alloc hB _).size)
                clear B1' hx
                go_wp2_with fail
                refine bodyPost_ret (v := FV 6 (m : Int) (q : Int)) (by simp [results, Tryz.results5, go_sem, r0, r1, r2]) rfl ⟨?_, ?_⟩
                · rw [HR.out]; rfl
                · exact ((hz.setCell (p := ⟨w.heap.size + 1, 0, none⟩) (by simp) _).setCell (p := ⟨w.heap.size + 1, 1, none⟩) (by simp) _).setCell (p := ⟨w.heap.size + 1, 2, none⟩) (by simp) _
              · have hy := bw1 wr (.cells #[.int .i64 11, .int .i64 n.a, .int .i64 nb, .int .i64 n.c, .int .i64 n.d] 45)
                have hBa := below_alloc hB (.cells #[.int .i64 11, .int .i64 n.a, .int .i64 nb, .int .i64 n.c, .int .i64 n.d] 45)
                have mc : (wr.alloc (.cells #[.int .i64 11, .int .i64 n.a, .int .i64 nb, .int .i64 n.c, .int .i64 n.d] 45)).cell? ⟨g, nb, none⟩ = some (.bool (mq.getD nb false)) := by rw [blk_cell (blk_later hy BM.out)]; exact mb_get _ _ (by omega)
                have a0 : (wr.alloc (.cells #[.int .i64 11, .int .i64 n.a, .int .i64 nb, .int .i64 n.c, .int .i64 n.d] 45)).cell? ⟨w.heap.size, 0, none⟩ = some (.slice (some ⟨b, off, none⟩) len cap) := by rw [blk_cell (blk_later hy B0.out)]; rfl
                replace B0 : Hid _ := blk_later hy B0.out
                replace B1 : Hid _ := blk_later hy B1.out
                replace BM : Hid _ := blk_later hy BM.out
                clear hy hB
                cases hmd : mq.getD nb false
                · rw [hmd] at mc
                  cases hup : upsB d k.d.ups
                  · skip
                    have HR : Hid (shapeV cs = (6, (m : Int), (q : Int))) := by
                      have h1 : fnB cs m d n mq = false := by rw [HFB.out, hup]; simp
                      have h2 := HE.out
                      rw [h1, if_neg (by simp)] at h2
                      have h3 := HD.out
                      rw [← h2] at h3
                      rw [← HCL.out] at h3
                      exact shape_6 HP0.out h3.symm
                    go_wp2_with fail
                    refine (upsok_any b off len cap m nb ⟨d, au, cu, ac, cc, some ⟨bi, oi, none⟩, ci, an, cn⟩ k _ k1 hnl hlen (HCC.out.later hBa) (HK9.out.later hBa) (HKL.out.later hBa) HOK.out HKO.out hr0 hr1).mono ?_
                    rw [hup]
                    rintro e w2 ⟨rfl, hx⟩
                    have hB := hBa.trans (hx.mono hBa.size)
                    replace B1 : Hid _ := blk_later hx B1.out
                    clear hx mc a0 v0 v1 v2 v3 v4
                    go_wp2_with fail
                    refine (fault_b _ _ _ _).mono ?_
                    rintro e w9 ⟨rfl, hx⟩
                    have B1' := blk_later hx B1.out
                    have r0 : w9.cell? ⟨w.heap.size + 1, 0, none⟩ = some (.int .i64 0) := by rw [blk_cell B1']; rfl
                    have r1 : w9.cell? ⟨w.heap.size + 1, 1, none⟩ = some (.int .i64 0) := by rw [blk_cell B1']; rfl
                    have r2 : w9.cell? ⟨w.heap.size + 1, 2, none⟩ = some (.int .i64 0) := by rw [blk_cell B1']; rfl
                    have z := blk_frozen B1'
                    have hz := hB.trans (hx.mono hB.size)
                    clear B1' hx
                    go_wp2_with fail
                    refine bodyPost_ret (v := FV 6 (m : Int) (q : Int)) (by simp [results, Tryz.results5, go_sem, r0, r1, r2]) rfl ⟨?_, ?_⟩
                    · rw [HR.out]; rfl
                    · exact ((hz.setCell (p := ⟨w.heap.size + 1, 0, none⟩) (by simp) _).setCell (p := ⟨w.heap.size + 1, 1, none⟩) (by simp) _).setCell (p := ⟨w.heap.size + 1, 2, none⟩) (by simp) _
                  · have HG1 : Hid (f6i cs m d (d.ins.drop (q + 1)) (q + 1) (mq.set nb true) = f6i cs m d d.ins 0 mk) := by
                      have h1 : fnB cs m d n mq = true := by rw [HFB.out, hmd, hup]; simp [hle]
                      have h2 := HE.out
                      rw [h1, if_pos rfl] at h2
                      exact h2
                    clear HE HFB HD
                    go_wp2_with fail
                    refine (upsok_any b off len cap m nb ⟨d, au, cu, ac, cc, some ⟨bi, oi, none⟩, ci, an, cn⟩ k _ k1 hnl hlen (HCC.out.later hBa) (HK9.out.later hBa) (HKL.out.later hBa) HOK.out HKO.out hr0 hr1).mono ?_
                    rw [hup]
                    rintro e w2 ⟨rfl, hx⟩
                    have hB := hBa.trans (hx.mono hBa.size)
                    replace B0 : Hid _ := blk_later hx B0.out
                    replace B1 : Hid _ := blk_later hx B1.out
                    replace BM : Hid _ := blk_later hx BM.out
                    have n2 : w2.cell? ⟨wr.heap.size, 2, none⟩ = some (.int .i64 nb) := by rw [blk_cell (blk_later hx (blk_new _ _))]; rfl
                    have mc2 : w2.cell? ⟨g, nb, none⟩ = some (.bool (mq.getD nb false)) := by rw [blk_cell BM.out]; exact mb_get _ _ (by omega)
                    have z := blk_frozen BM.out
                    clear hx mc a0 v0 v1 v2 v3 v4
                    go_wp2_with fail
                    go_roundw
                    case rel => exact ⟨q + 1, mq.set nb true, by omega, by go_num, by rw [List.length_set]; exact hml, HG1, hB.setCell (p := ⟨g, nb, none⟩) (by simp; omega) _, blk_other B0.out (by omega) _ _, blk_other B1.out (by omega) _ _, by have h := blk_set BM.out nb (.bool true); rw [mb_set] at h; exact h⟩
                    case measure => simp [intOf]; omega
                · rw [hmd] at mc
                  have HR : Hid (shapeV cs = (6, (m : Int), (q : Int))) := by
                    have h1 : fnB cs m d n mq = false := by rw [HFB.out, hmd]; simp
                    have h2 := HE.out
                    rw [h1, if_neg (by simp)] at h2
                    have h3 := HD.out
                    rw [← h2] at h3
                    rw [← HCL.out] at h3
                    exact shape_6 HP0.out h3.symm
                  clear a0
                  have B1 : Hid _ := B1.out
                  go_wp2_with fail
                  refine (fault_b _ _ _ _).mono ?_
                  rintro e w9 ⟨rfl, hx⟩
                  have B1' := blk_later hx B1.out
                  have r0 : w9.cell? ⟨w.heap.size + 1, 0, none⟩ = some (.int .i64 0) := by rw [blk_cell B1']; rfl
                  have r1 : w9.cell? ⟨w.heap.size + 1, 1, none⟩ = some (.int .i64 0) := by rw [blk_cell B1']; rfl
                  have r2 : w9.cell? ⟨w.heap.size + 1, 2, none⟩ = some (.int .i64 0) := by rw [blk_cell B1']; rfl
                  have z := blk_frozen B1'
                  have hz := hBa.trans (hx.mono hBa.size)
                  clear B1' hx
                  go_wp2_with fail
                  refine bodyPost_ret (v := FV 6 (m : Int) (q : Int)) (by simp [results, Tryz.results5, go_sem, r0, r1, r2]) rfl ⟨?_, ?_⟩
                  · rw [HR.out]; rfl
                  · exact ((hz.setCell (p := ⟨w.heap.size + 1, 0, none⟩) (by simp) _).setCell (p := ⟨w.heap.size + 1, 1, none⟩) (by simp) _).setCell (p := ⟨w.heap.size + 1, 2, none⟩) (by simp) _
            · have v0 : wr.cell? ⟨bi, oi + q * 5, none⟩ = some (.int .i64 n.op) := cell_later hB (hci 0 _ rfl)
              have v2 : wr.cell? ⟨bi, oi + q * 5 + 2, none⟩ = some (.int .i64 n.b) := cell_later hB (hci 2 _ rfl)
              have h11' : (n.op != 11) = true := by simpa using h11
              have HG1 : Hid (f6i cs m d (d.ins.drop (q + 1)) (q + 1) mq = f6i cs m d d.ins 0 mk) := by have h2 := HE.out; rw [if_neg h11] at h2; exact h2
              clear HE HG hn hci hib HD
              go_wp2_with fail
              go_roundw
              case rel => exact ⟨q + 1, mq, by omega, by go_num, hml, HG1, below_alloc hB _, blk_old B0.out _, blk_old B1.out _, blk_old BM.out _⟩
              case measure => simp [intOf]; omega
          · have HF1 : Hid (f6 cs ((xs.drop (m + 1)).map FC.d) (m + 1) mq = f6 cs cs 0 (List.replicate len false)) := by
              have h1 := HG.out
              rw [f6i_end (by omega)] at h1
              have h2 := HD.out
              rw [← h1] at h2
              exact h2
            clear HG HD
            go_wp2_with fail
            go_roundw
            case rel => exact ⟨m + 1, mq, by omega, by go_num, hml, HF1, hB, B0, B1, BM⟩
            case measure => simp [intOf]; omega
      · have H6 : Hid (f6 cs cs 0 (List.replicate cs.length false) = (none, mk)) := by show f6 cs cs 0 _ = _; rw [HCL.out, ← HF.out, f6_end (by rw [HL.out]; omega)]
        have hlen1 : 1 ≤ len := by
          have h := HP3.out.1
          unfold badSize at h
          rw [HCL.out] at h
          omega
        clear HF
        have hml' : len = m := by omega
        clear hm k1
        have a0 : wr.cell? ⟨w.heap.size, 0, none⟩ = some (.slice a len cap) := by rw [blk_cell B0.out]; rfl
        go_wp2_with fail
        clear a0
        go_loopw [9] (fun i wr => ∃ p : Nat, p ≤ len ∧ 1 ≤ p ∧ i = .int .i64 p ∧ Hid (ff (fun _ b => b) (mk.drop p) p = ff (fun _ b => b) (mk.drop 1) 1) ∧ Below w.heap.size w wr ∧ Hid (wr.heap[w.heap.size]? = some (CO (.slice a len cap))) ∧ Hid (wr.heap[w.heap.size + 1]? = some (FO 0 0 0)) ∧ Hid (wr.heap[g]? = some (.cells (mb mk) 4))) (fun i _ => len - (intOf i).toNat)
        case atStart => exact ⟨1, hlen1, by omega, rfl, rfl, hB, B0, B1, BM⟩
        case round =>
          clear hB B0 B1 BM
          obtain ⟨p, hp, hp1, rfl, HF, hB, B0, B1, BM⟩ := hrel
          have a0 : wr.cell? ⟨w.heap.size, 0, none⟩ = some (.slice a len cap) := by rw [blk_cell B0.out]; rfl
          by_cases k1 : p < len
          · have hpm : mk[p]? = some (mk.getD p false) := by rw [List.getD_eq_getElem?_getD, List.getElem?_eq_getElem (by omega)]; rfl
            have mc : wr.cell? ⟨g, p, none⟩ = some (.bool (mk.getD p false)) := by rw [blk_cell BM.out]; exact mb_get _ _ (by omega)
            have HE : Hid ((if mk.getD p false = true then ff (fun _ b => b) (mk.drop (p + 1)) (p + 1) else some p) = ff (fun _ b => b) (mk.drop 1) 1) := by have h := HF.out; rw [ff_drop _ hpm] at h; exact h
            clear HF hpm
            cases hmd : mk.getD p false
            · rw [hmd] at mc
              have HR : Hid (shapeV cs = (7, (p : Int), 0)) := shape_7 HP0.out H6.out (by have h := HE.out; rw [hmd, if_neg (by simp)] at h; exact h.symm)
              go_wp2_with fail
              refine (fault_b _ _ _ _).mono ?_
              rintro e w9 ⟨rfl, hx⟩
              have B1' := blk_later hx B1.out
              have r0 : w9.cell? ⟨w.heap.size + 1, 0, none⟩ = some (.int .i64 0) := by rw [blk_cell B1']; rfl
              have r1 : w9.cell? ⟨w.heap.size + 1, 1, none⟩ = some (.int .i64 0) := by rw [blk_cell B1']; rfl
              have r2 : w9.cell? ⟨w.heap.size + 1, 2, none⟩ = some (.int .i64 0) := by rw [blk_cell B1']; rfl
              have z := blk_frozen B1'
              have hz := hB.trans (hx.mono hB.size)
              clear B1' hx
              go_wp2_with fail
              refine bodyPost_ret (v := FV 7 (p : Int) 0) (by simp [results, Tryz.results5, go_sem, r0, r1, r2]) rfl ⟨?_, ?_⟩
              · rw [HR.out]; rfl
              · exact ((hz.setCell (p := ⟨w.heap.size + 1, 0, none⟩) (by simp) _).setCell (p := ⟨w.heap.size + 1, 1, none⟩) (by simp) _).setCell (p := ⟨w.heap.size + 1, 2, none⟩) (by simp) _
            · rw [hmd] at mc
              have HF1 : Hid (ff (fun _ b => b) (mk.drop (p + 1)) (p + 1) = ff (fun _ b => b) (mk.drop 1) 1) := by have h := HE.out; rw [hmd, if_pos rfl] at h; exact h
              clear HE
              go_wp2_with fail
              go_roundw
              case rel => exact ⟨p + 1, by omega, by omega, by go_num, HF1, hB, B0, B1, BM⟩
              case measure => simp [intOf]; omega
          · have HR : Hid (shapeV cs = (0, 0, 0)) := shape_0 HP0.out H6.out (by rw [← HF.out]; exact ff_end _ (by omega))
            clear HF
            have r0 : wr.cell? ⟨w.heap.size + 1, 0, none⟩ = some (.int .i64 0) := by rw [blk_cell B1.out]; rfl
            have r1 : wr.cell? ⟨w.heap.size + 1, 1, none⟩ = some (.int .i64 0) := by rw [blk_cell B1.out]; rfl
            have r2 : wr.cell? ⟨w.heap.size + 1, 2, none⟩ = some (.int .i64 0) := by rw [blk_cell B1.out]; rfl
            have z := blk_frozen B1.out
            go_wp2_with fail
            refine bodyPost_ret (v := FV 0 0 0) (by simp [results, Tryz.results5, go_sem, r0, r1, r2]) rfl ⟨?_, ?_⟩
            · rw [HR.out]; rfl
            · exact ((hB.setCell (p := ⟨w.heap.size + 1, 0, none⟩) (by simp) _).setCell (p := ⟨w.heap.size + 1, 1, none⟩) (by simp) _).setCell (p := ⟨w.heap.size + 1, 2, none⟩) (by simp) _
  · have hpc : (pc != 0) = true := by simpa using hp0
    have HR : Hid (shapeV cs = (pc, pp, pi)) := by show shapeV cs = _; rw [shape_parts (by rw [← hpv]; exact hp0), ← hpv]
    have hy := bw1 w1 (FO pc pp pi)
    have B1' := blk_later hy B1.out
    have r0 : (w1.alloc (FO pc pp pi)).cell? ⟨w.heap.size + 1, 0, none⟩ = some (.int .i64 0) := by rw [blk_cell B1']; rfl
    have r1 : (w1.alloc (FO pc pp pi)).cell? ⟨w.heap.size + 1, 1, none⟩ = some (.int .i64 0) := by rw [blk_cell B1']; rfl
    have r2 : (w1.alloc (FO pc pp pi)).cell? ⟨w.heap.size + 1, 2, none⟩ = some (.int .i64 0) := by rw [blk_cell B1']; rfl
    have z := blk_frozen B1'
    have hz := hB.trans (hy.mono hB.size)
    clear B1' hy hp0 hpv
    go_wp2_with fail
    refine bodyPost_ret (v := FV pc pp pi) (by simp [results, Tryz.results5, go_sem, r0, r1, r2]) rfl ⟨?_, ?_⟩
    · rw [HR.out]; rfl
    · exact ((hz.setCell (p := ⟨w.heap.size + 1, 0, none⟩) (by simp) _).setCell (p := ⟨w.heap.size + 1, 1, none⟩) (by simp) _).setCell (p := ⟨w.heap.size + 1, 2, none⟩) (by simp) _
end Go.Proofs.YtmicnjphlakoaaaGreatDoor
