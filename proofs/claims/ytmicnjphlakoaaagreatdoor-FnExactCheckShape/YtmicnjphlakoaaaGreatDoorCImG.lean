/-
  OWN WORK. The program's shape: checkFns.
-/
import Derived.Test.YtmicnjphlakoaaaGreatDoorCImF
namespace Go.Proofs.YtmicnjphlakoaaaGreatDoor
open Go.RowKit
attribute [local go_sem] run_store_float
set_option linter.unusedVariables false
set_option linter.unusedSimpArgs false

/-- No fault, or one. -/
def optF (t : F3) : Option F3 := if t.1 = 0 then none else some t
theorem fns_6 {c : List FD} {p i : Nat} {mk : List Bool} (h6 : f6 c c 0 (List.replicate c.length false) = (some (p, i), mk)) : optF (fnsV c) = some (6, (p : Int), (i : Int)) := by unfold fnsV; rw [h6]; rfl
theorem fns_7 {c : List FD} {mk : List Bool} (h6 : f6 c c 0 (List.replicate c.length false) = (none, mk)) {p : Nat} (h7 : ff (fun _ b => b) (mk.drop 1) 1 = some p) : optF (fnsV c) = some (7, (p : Int), 0) := by
  unfold fnsV; rw [h6]; show optF (match ff (fun _ b => b) (mk.drop 1) 1 with | some p => ((7 : Int), (p : Int), (0 : Int)) | none => (0, 0, 0)) = _; rw [h7]; rfl
theorem fns_0 {c : List FD} {mk : List Bool} (h6 : f6 c c 0 (List.replicate c.length false) = (none, mk)) (h7 : ff (fun _ b => b) (mk.drop 1) 1 = none) : optF (fnsV c) = none := by
  unfold fnsV; rw [h6]; show optF (match ff (fun _ b => b) (mk.drop 1) 1 with | some p => ((7 : Int), (p : Int), (0 : Int)) | none => (0, 0, 0)) = _; rw [h7]; rfl

set_option maxRecDepth 20000 in
set_option maxHeartbeats 8000000 in
theorem ifns_any (a : Option Addr) (len cap : Nat) (xs : List FC) (w : World) (H0 : CodeAt w a xs) (hl : xs.length = len) (hp0 : (partsV (xs.map FC.d)).1 = 0) :
    Calls Tryz.prog 32 #[.agg #[.slice a len cap]] w fun e w' => e = .returned (EV (optF (fnsV (xs.map FC.d)))) ∧ Below w.heap.size w w' := by
  have hlen : len ≤ 1048576 := by rw [← hl]; exact H0.len
  have H : Hid (CodeAt w a xs) := H0
  have HL : Hid (xs.length = len) := hl
  obtain ⟨cs, hcs⟩ : ∃ cs, cs = xs.map FC.d := ⟨_, rfl⟩
  have HM : Hid (cs = xs.map FC.d) := hcs
  have HCL : Hid (cs.length = len) := by show cs.length = len; rw [hcs, List.length_map, hl]
  rw [← hcs] at hp0 ⊢
  have HP3 : Hid (¬ badSize cs ∧ fp hd0 cs 0 = none ∧ fp co0 cs 0 = none ∧ fp na0 cs 0 = none ∧ fp (in0 cs.length) cs 0 = none) := parts_ok hp0
  clear H0 hl hcs hp0
  have hmk := make_bool len hlen (w.alloc (CO (.slice a len cap)))
  have hy2 := bw1 (w.alloc (CO (.slice a len cap))) (.cells (mb (List.replicate len false)) 4)
  have B0n : Hid _ := blk_later hy2 (blk_new w (CO (.slice a len cap)))
  have a1 : ((w.alloc (CO (.slice a len cap))).alloc (.cells (mb (List.replicate len false)) 4)).cell? ⟨w.heap.size, 0, none⟩ = some (.slice a len cap) := by rw [blk_cell B0n.out]; rfl
  obtain ⟨g, hg⟩ : ∃ g, g = w.heap.size + 1 := ⟨_, rfl⟩
  have BMn : Hid (((w.alloc (CO (.slice a len cap))).alloc (.cells (mb (List.replicate len false)) 4)).heap[g]? = some (.cells (mb (List.replicate len false)) 4)) := blk_newn (by rw [hg]; simp) _
  have hg1 : w.heap.size < g := by omega
  go_enter Tryz.func32, Tryz.ntmps32
  go_wp2_with fail
  rw [← hg]
  clear hg hmk a1 hy2
  go_loopw [16] (fun i wr => ∃ (m : Nat) (mk : List Bool), m ≤ len ∧ i = .int .i64 m ∧ mk.length = len ∧ Hid (f6 cs ((xs.drop m).map FC.d) m mk = f6 cs cs 0 (List.replicate len false)) ∧ Below w.heap.size w wr ∧ Hid (wr.heap[w.heap.size]? = some (CO (.slice a len cap))) ∧ Hid (wr.heap[g]? = some (.cells (mb mk) 4))) (fun i _ => len - (intOf i).toNat)
  case atStart => exact ⟨0, List.replicate len false, Nat.zero_le _, rfl, List.length_replicate .., by show f6 cs ((xs.drop 0).map FC.d) 0 _ = _; rw [List.drop_zero, ← HM.out], bw2 _ _ _, B0n, BMn⟩
  case round =>
    clear B0n BMn
    obtain ⟨m, mk, hm, rfl, hml, HF, hB, B0, BM⟩ := hrel
    by_cases k1 : m < len
    · obtain ⟨f, hf⟩ : ∃ f, xs[m]? = some f := ⟨xs[m]'(by rw [HL.out]; exact k1), by simp⟩
      obtain ⟨b, off, rfl, hb, hc⟩ := H.out.nine hf
      have hok := H.out.ok f (List.mem_of_getElem? hf)
      have HLI : Hid (f.lie w) := H.out.lie f (List.mem_of_getElem? hf)
      have hcm : cs[m]? = some f.d := by rw [HM.out]; exact map_at hf
      obtain ⟨hr0, hr1⟩ := regs_of HP3.out.2.1 hcm
      have HIN : Hid (∀ q n, f.d.ins[q]? = some n → insB len f.d q n = true) := fun q n hq => by have h := ins_ok HP3.out.2.2.2.2 hcm hq; rw [HCL.out] at h; exact h
      have HD : Hid ((match f6i cs m f.d f.d.ins 0 mk with | (some i, k) => (some (m, i), k) | (none, k) => f6 cs ((xs.drop (m + 1)).map FC.d) (m + 1) k) = f6 cs cs 0 (List.replicate len false)) := by have h := HF.out; rw [f6_drop hf] at h; exact h
      clear HF hf hb hcm
      obtain ⟨d, au, cu, ac, cc, ai, ci, an, cn⟩ := f
      obtain ⟨c0, c1, c2, c3, c4, c5, c6, c7, c8⟩ := hc.later hB
      simp only at c0 c1 c2 c3 c4 c5 c6 c7 c8 hok HD hr0 hr1 HIN
      have HLX : Hid (SlA w 5 ID.cells ai d.ins) := HLI.out.i
      have hlx : d.ins.length ≤ 1048576 := hok.li
      have HOK : Hid d.ok := hok
      clear hok hc HLI
      go_wp2_with fail
      obtain ⟨gf, hgf⟩ : ∃ gf, gf = wr.heap.size := ⟨_, rfl⟩
      have BF : Hid ((wr.alloc (PO ⟨d, au, cu, ac, cc, ai, ci, an, cn⟩)).heap[gf]? = some (PO ⟨d, au, cu, ac, cc, ai, ci, an, cn⟩)) := blk_newn hgf.symm _
      have hgl := blk_lt BM.out
      have hgf1 : g < gf := by omega
      rw [← hgf]
      clear hgf hgl c0 c1 c2 c3 c4 c5 c6 c7 c8
      go_loopw [24] (fun i wr => ∃ (q : Nat) (mq : List Bool), q ≤ d.ins.length ∧ i = .int .i64 q ∧ mq.length = len ∧ Hid (f6i cs m d (d.ins.drop q) q mq = f6i cs m d d.ins 0 mk) ∧ Below w.heap.size w wr ∧ Hid (wr.heap[w.heap.size]? = some (CO (.slice (some ⟨b, off, none⟩) len cap))) ∧ Hid (wr.heap[g]? = some (.cells (mb mq) 4)) ∧ Hid (wr.heap[gf]? = some (PO ⟨d, au, cu, ac, cc, ai, ci, an, cn⟩))) (fun i _ => d.ins.length - (intOf i).toNat)
      case atStart => exact ⟨0, mk, Nat.zero_le _, rfl, hml, rfl, below_alloc hB _, blk_old B0.out _, blk_old BM.out _, BF⟩
      case round =>
        clear hB B0 BM hml BF
        obtain ⟨q, mq, hq, rfl, hml, HG, hB, B0, BM, BF⟩ := hrel
        by_cases k2 : q < d.ins.length
        · obtain ⟨n, hn⟩ : ∃ n, d.ins[q]? = some n := ⟨d.ins[q]'k2, by simp⟩
          obtain ⟨bi, oi, rfl, _, hci⟩ := HLX.out q n hn
          have hib := HIN.out q n hn
          have HE : Hid ((if n.op = 11 then (if fnB cs m d n mq = true then f6i cs m d (d.ins.drop (q + 1)) (q + 1) (mq.set n.b.toNat true) else (some q, mq)) else f6i cs m d (d.ins.drop (q + 1)) (q + 1) mq) = f6i cs m d d.ins 0 mk) := by have h := HG.out; rw [f6i_drop hn] at h; exact h
          have v1 : wr.cell? ⟨bi, oi + q * 5 + 1, none⟩ = some (.int .i64 n.a) := cell_later hB (hci 1 _ rfl)
          have v3 : wr.cell? ⟨bi, oi + q * 5 + 3, none⟩ = some (.int .i64 n.c) := cell_later hB (hci 3 _ rfl)
          have v4 : wr.cell? ⟨bi, oi + q * 5 + 4, none⟩ = some (.int .i64 n.d) := cell_later hB (hci 4 _ rfl)
          by_cases h11 : n.op = 11
          · obtain ⟨hb0, hb1⟩ := fn_b hib h11
            obtain ⟨nb, hnb⟩ : ∃ nb : Nat, n.b = nb := ⟨n.b.toNat, by omega⟩
            have hnl : nb < len := by omega
            have v0 : wr.cell? ⟨bi, oi + q * 5, none⟩ = some (.int .i64 11) := by rw [← h11]; exact cell_later hB (hci 0 _ rfl)
            have v2 : wr.cell? ⟨bi, oi + q * 5 + 2, none⟩ = some (.int .i64 nb) := by rw [← hnb]; exact cell_later hB (hci 2 _ rfl)
            have hnt : n.b.toNat = nb := by omega
            obtain ⟨k, hk⟩ : ∃ k, xs[nb]? = some k := ⟨xs[nb]'(by rw [HL.out]; exact hnl), by simp⟩
            have hck : cs.getD nb fd0 = k.d := by rw [HM.out, List.getD_eq_getElem?_getD, map_at hk]; rfl
            have HFB : Hid (fnB cs m d n mq = !(decide (nb ≤ m) || mq.getD nb false || !upsB d k.d.ups)) := by show fnB cs m d n mq = _; unfold fnB; rw [hnt, hck, hnb]; simp
            obtain ⟨b2, off2, hbe, _, hck9⟩ := H.out.nine hk
            simp only [Option.some.injEq, Addr.mk.injEq, and_true] at hbe
            obtain ⟨rfl, rfl⟩ := hbe
            have HK5 : Hid (w.cell? ⟨b, off + nb * 9 + 5, none⟩ = some (.slice k.au k.d.ups.length k.cu)) := hck9.c5
            have HKL : Hid (SlA w 2 UD.cells k.au k.d.ups) := (H.out.lie k (List.mem_of_getElem? hk)).u
            have HKO : Hid (k.d.ups.length ≤ 1048576) := (H.out.ok k (List.mem_of_getElem? hk)).lu
            rw [hnt, if_pos h11] at HE
            clear hck9 hk hck hnt hib hci hn HG h11 hb0 hb1 hnb
            obtain ⟨w2, hw2, hy, BN, _⟩ := newblk wr (.cells #[.int .i64 11, .int .i64 n.a, .int .i64 nb, .int .i64 n.c, .int .i64 n.d] 45)
            have n2 : w2.cell? ⟨wr.heap.size, 2, none⟩ = some (.int .i64 nb) := by rw [blk_cell BN]; rfl
            have hBa := hB.trans (hy.mono hB.size)
            have B0a : Hid _ := blk_later hy B0.out
            have BMa : Hid _ := blk_later hy BM.out
            have BFa : Hid _ := blk_later hy BF.out
            have BNa : Hid _ := BN
            have mc : w2.cell? ⟨g, nb, none⟩ = some (.bool (mq.getD nb false)) := by rw [blk_cell BMa.out]; exact mb_get _ _ (by omega)
            have a0 : w2.cell? ⟨w.heap.size, 0, none⟩ = some (.slice (some ⟨b, off, none⟩) len cap) := by rw [blk_cell B0a.out]; rfl
            have k5 := cell_later hBa HK5.out
            have p0 : w2.cell? ⟨gf, 0, none⟩ = some (.string d.name) := by rw [blk_cell BFa.out]; rfl
            have p1 : w2.cell? ⟨gf, 1, none⟩ = some (.int .i64 d.line) := by rw [blk_cell BFa.out]; rfl
            have p2 : w2.cell? ⟨gf, 2, none⟩ = some (.int .i64 d.params) := by rw [blk_cell BFa.out]; rfl
            have p3 : w2.cell? ⟨gf, 3, none⟩ = some (.bool d.rest) := by rw [blk_cell BFa.out]; rfl
            have p4 : w2.cell? ⟨gf, 4, none⟩ = some (.int .i64 d.regs) := by rw [blk_cell BFa.out]; rfl
            have p5 : w2.cell? ⟨gf, 5, none⟩ = some (.slice au d.ups.length cu) := by rw [blk_cell BFa.out]; rfl
            have p6 : w2.cell? ⟨gf, 6, none⟩ = some (.slice ac d.consts.length cc) := by rw [blk_cell BFa.out]; rfl
            have p7 : w2.cell? ⟨gf, 7, none⟩ = some (.slice (some ⟨bi, oi, none⟩) d.ins.length ci) := by rw [blk_cell BFa.out]; rfl
            have p8 : w2.cell? ⟨gf, 8, none⟩ = some (.slice an d.named.length cn) := by rw [blk_cell BFa.out]; rfl
            clear hB B0 BM BF BN
            by_cases hle : nb ≤ m
            · have hle' : decide ((nb : Int) ≤ (m : Int)) = true := by simpa using hle
              have HR : Hid (optF (fnsV cs) = some (6, (m : Int), (q : Int))) := by
                have h1 : fnB cs m d n mq = false := by rw [HFB.out]; simp [hle]
                have h2 := HE.out
                rw [h1, if_neg (by simp)] at h2
                have h3 := HD.out
                rw [← h2] at h3
                rw [← HCL.out] at h3
                exact fns_6 h3.symm
              go_wp2_with fail
              rw [← hw2]
              have e0 := lat_cell n2; have e1 := lat_cell mc; have e2 := lat_cell a0; have e3 := lat_cell k5; have f0 := lat_cell p0; have f1 := lat_cell p1; have f2 := lat_cell p2; have f3 := lat_cell p3; have f4 := lat_cell p4; have f5 := lat_cell p5; have f6 := lat_cell p6; have f7 := lat_cell p7; have f8 := lat_cell p8
              have HSX : Hid (∀ x : Lat w2, SlA x.wd 2 UD.cells k.au k.d.ups) := fun x => (HKL.out.later hBa).later x.below
              haveI := lat_some w2
              clear hw2 hy n2 mc a0 k5 p0 p1 p2 p3 p4 p5 p6 p7 p8 v0 v1 v2 v3 v4
              refine wp_region_lat (by kernel_rfl) (by kernel_rfl) ?_
              repeat (go_big_quiet_step (fail))
              refine wpQuiet_nil ?_
              rintro _ ⟨nq, rfl⟩
              have hz := hBa.trans (nq.below.mono hBa.size)
              clear e0 e1 e2 e3 f0 f1 f2 f3 f4 f5 f6 f7 f8
              go_wp2_with (go_at_call 27; refine (fat_any _ _ _ _).mono ?_; rintro e w' ⟨rfl, rfl⟩)
              go_ret
              exact ⟨by rw [HR.out]; rfl, hz⟩
            have hle' : decide ((nb : Int) ≤ (m : Int)) = false := by simpa using hle
            cases hmd : mq.getD nb false
            · rw [hmd] at mc
              cases hup : upsB d k.d.ups
              · skip
                have HR : Hid (optF (fnsV cs) = some (6, (m : Int), (q : Int))) := by
                  have h1 : fnB cs m d n mq = false := by rw [HFB.out, hup]; simp
                  have h2 := HE.out
                  rw [h1, if_neg (by simp)] at h2
                  have h3 := HD.out
                  rw [← h2] at h3
                  rw [← HCL.out] at h3
                  exact fns_6 h3.symm
                go_wp2_with fail
                rw [← hw2]
                have e0 := lat_cell n2; have e1 := lat_cell mc; have e2 := lat_cell a0; have e3 := lat_cell k5; have f0 := lat_cell p0; have f1 := lat_cell p1; have f2 := lat_cell p2; have f3 := lat_cell p3; have f4 := lat_cell p4; have f5 := lat_cell p5; have f6 := lat_cell p6; have f7 := lat_cell p7; have f8 := lat_cell p8
                have HSX : Hid (∀ x : Lat w2, SlA x.wd 2 UD.cells k.au k.d.ups) := fun x => (HKL.out.later hBa).later x.below
                haveI := lat_some w2
                clear hw2 hy n2 mc a0 k5 p0 p1 p2 p3 p4 p5 p6 p7 p8 v0 v1 v2 v3 v4
                refine wp_region_lat (by kernel_rfl) (by kernel_rfl) ?_
                repeat (go_big_quiet_step ((go_at_call 56; refine lat_calls ((iups_any k.au k.d.ups.length k.cu k.d.ups ⟨d, au, cu, ac, cc, some ⟨bi, oi, none⟩, ci, an, cn⟩ _ rfl (HSX.out _) HKO.out HOK.out hr0 hr1).mono fun _ _ h => by rw [hup] at h; exact h))))
                refine wpQuiet_nil ?_
                rintro _ ⟨nq, rfl⟩
                have hz := hBa.trans (nq.below.mono hBa.size)
                clear e0 e1 e2 e3 f0 f1 f2 f3 f4 f5 f6 f7 f8
                go_wp2_with (go_at_call 27; refine (fat_any _ _ _ _).mono ?_; rintro e w' ⟨rfl, rfl⟩)
                go_ret
                exact ⟨by rw [HR.out]; rfl, hz⟩
              · have HG1 : Hid (f6i cs m d (d.ins.drop (q + 1)) (q + 1) (mq.set nb true) = f6i cs m d d.ins 0 mk) := by
                  have h1 : fnB cs m d n mq = true := by rw [HFB.out, hmd, hup]; simp [hle]
                  have h2 := HE.out
                  rw [h1, if_pos rfl] at h2
                  exact h2
                clear HE HFB HD
                go_wp2_with fail
                rw [← hw2]
                have e0 := lat_cell n2; have e1 := lat_cell mc; have e2 := lat_cell a0; have e3 := lat_cell k5; have f0 := lat_cell p0; have f1 := lat_cell p1; have f2 := lat_cell p2; have f3 := lat_cell p3; have f4 := lat_cell p4; have f5 := lat_cell p5; have f6 := lat_cell p6; have f7 := lat_cell p7; have f8 := lat_cell p8
                have HSX : Hid (∀ x : Lat w2, SlA x.wd 2 UD.cells k.au k.d.ups) := fun x => (HKL.out.later hBa).later x.below
                haveI := lat_some w2
                clear hw2 hy n2 mc a0 k5 p0 p1 p2 p3 p4 p5 p6 p7 p8 v0 v1 v2 v3 v4
                refine wp_region_lat (by kernel_rfl) (by kernel_rfl) ?_
                repeat (go_big_quiet_step ((go_at_call 56; refine lat_calls ((iups_any k.au k.d.ups.length k.cu k.d.ups ⟨d, au, cu, ac, cc, some ⟨bi, oi, none⟩, ci, an, cn⟩ _ rfl (HSX.out _) HKO.out HOK.out hr0 hr1).mono fun _ _ h => by rw [hup] at h; exact h))))
                refine wpQuiet_nil ?_
                rintro _ ⟨nq, rfl⟩
                have hz := hBa.trans (nq.below.mono hBa.size)
                clear e0 e1 e2 e3 f0 f1 f2 f3 f4 f5 f6 f7 f8
                obtain ⟨w3, hw3⟩ : ∃ w3, w3 = nq.wd := ⟨_, rfl⟩
                have hb3 : Below w2.heap.size w2 w3 := by rw [hw3]; exact nq.below
                rw [← hw3] at hz ⊢
                clear hw3
                replace B0a : Hid _ := blk_later hb3 B0a.out
                replace BMa : Hid _ := blk_later hb3 BMa.out
                replace BFa : Hid _ := blk_later hb3 BFa.out
                replace BNa : Hid _ := blk_later hb3 BNa.out
                have n2 : w3.cell? ⟨wr.heap.size, 2, none⟩ = some (.int .i64 nb) := by rw [blk_cell BNa.out]; rfl
                have mc : w3.cell? ⟨g, nb, none⟩ = some (.bool (mq.getD nb false)) := by rw [blk_cell BMa.out]; exact mb_get _ _ (by omega)
                have z := blk_frozen BMa.out
                go_wp2_with fail
                go_roundw
                case rel => exact ⟨q + 1, mq.set nb true, by omega, by go_num, by rw [List.length_set]; exact hml, HG1, hz.setCell (p := ⟨g, nb, none⟩) (by simp; omega) _, blk_other B0a.out (by omega) _ _, by have h := blk_set BMa.out nb (.bool true); rw [mb_set] at h; exact h, blk_other BFa.out (by omega) _ _⟩
                case measure => simp [intOf]; omega
            · rw [hmd] at mc
              have HR : Hid (optF (fnsV cs) = some (6, (m : Int), (q : Int))) := by
                have h1 : fnB cs m d n mq = false := by rw [HFB.out, hmd]; simp
                have h2 := HE.out
                rw [h1, if_neg (by simp)] at h2
                have h3 := HD.out
                rw [← h2] at h3
                rw [← HCL.out] at h3
                exact fns_6 h3.symm
              go_wp2_with fail
              rw [← hw2]
              have e0 := lat_cell n2; have e1 := lat_cell mc; have e2 := lat_cell a0; have e3 := lat_cell k5; have f0 := lat_cell p0; have f1 := lat_cell p1; have f2 := lat_cell p2; have f3 := lat_cell p3; have f4 := lat_cell p4; have f5 := lat_cell p5; have f6 := lat_cell p6; have f7 := lat_cell p7; have f8 := lat_cell p8
              have HSX : Hid (∀ x : Lat w2, SlA x.wd 2 UD.cells k.au k.d.ups) := fun x => (HKL.out.later hBa).later x.below
              haveI := lat_some w2
              clear hw2 hy n2 mc a0 k5 p0 p1 p2 p3 p4 p5 p6 p7 p8 v0 v1 v2 v3 v4
              refine wp_region_lat (by kernel_rfl) (by kernel_rfl) ?_
              repeat (go_big_quiet_step (fail))
              refine wpQuiet_nil ?_
              rintro _ ⟨nq, rfl⟩
              have hz := hBa.trans (nq.below.mono hBa.size)
              clear e0 e1 e2 e3 f0 f1 f2 f3 f4 f5 f6 f7 f8
              go_wp2_with (go_at_call 27; refine (fat_any _ _ _ _).mono ?_; rintro e w' ⟨rfl, rfl⟩)
              go_ret
              exact ⟨by rw [HR.out]; rfl, hz⟩
          · have v0 : wr.cell? ⟨bi, oi + q * 5, none⟩ = some (.int .i64 n.op) := cell_later hB (hci 0 _ rfl)
            have v2 : wr.cell? ⟨bi, oi + q * 5 + 2, none⟩ = some (.int .i64 n.b) := cell_later hB (hci 2 _ rfl)
            have h11' : (n.op != 11) = true := by simpa using h11
            have HG1 : Hid (f6i cs m d (d.ins.drop (q + 1)) (q + 1) mq = f6i cs m d d.ins 0 mk) := by have h2 := HE.out; rw [if_neg h11] at h2; exact h2
            clear HE HG hn hci hib HD
            go_wp2_with fail
            go_roundw
            case rel => exact ⟨q + 1, mq, by omega, by go_num, hml, HG1, below_alloc hB _, blk_old B0.out _, blk_old BM.out _, blk_old BF.out _⟩
            case measure => simp [intOf]; omega
        · have HF1 : Hid (f6 cs ((xs.drop (m + 1)).map FC.d) (m + 1) mq = f6 cs cs 0 (List.replicate len false)) := by
            have h1 := HG.out
            rw [f6i_end (by omega)] at h1
            have h2 := HD.out
            rw [← h1] at h2
            exact h2
          clear HG HD
          go_wp2_with fail
          go_roundw
          case rel => exact ⟨m + 1, mq, by omega, by go_num, hml, HF1, hB, B0, BM⟩
          case measure => simp [intOf]; omega
    · have H6 : Hid (f6 cs cs 0 (List.replicate cs.length false) = (none, mk)) := by show f6 cs cs 0 _ = _; rw [HCL.out, ← HF.out, f6_end (by rw [HL.out]; omega)]
      have hlen1 : 1 ≤ len := by
        have h := HP3.out.1
        unfold badSize at h
        rw [HCL.out] at h
        omega
      clear HF
      go_wp2_with fail
      go_loopw [8] (fun i wr => ∃ p : Nat, p ≤ len ∧ 1 ≤ p ∧ i = .int .i64 p ∧ Hid (ff (fun _ b => b) (mk.drop p) p = ff (fun _ b => b) (mk.drop 1) 1) ∧ Below w.heap.size w wr ∧ Hid (wr.heap[g]? = some (.cells (mb mk) 4))) (fun i _ => len - (intOf i).toNat)
      case atStart => exact ⟨1, hlen1, by omega, rfl, rfl, hB, BM⟩
      case round =>
        clear hB B0 BM
        obtain ⟨p, hp, hp1, rfl, HF, hB, BM⟩ := hrel
        by_cases k2 : p < len
        · have hpm : mk[p]? = some (mk.getD p false) := by rw [List.getD_eq_getElem?_getD, List.getElem?_eq_getElem (by omega)]; rfl
          have mc : wr.cell? ⟨g, p, none⟩ = some (.bool (mk.getD p false)) := by rw [blk_cell BM.out]; exact mb_get _ _ (by omega)
          have HE : Hid ((if mk.getD p false = true then ff (fun _ b => b) (mk.drop (p + 1)) (p + 1) else some p) = ff (fun _ b => b) (mk.drop 1) 1) := by have h := HF.out; rw [ff_drop _ hpm] at h; exact h
          clear HF hpm
          cases hmd : mk.getD p false
          · rw [hmd] at mc
            have HR : Hid (optF (fnsV cs) = some (7, (p : Int), 0)) := fns_7 H6.out (by have h := HE.out; rw [hmd, if_neg (by simp)] at h; exact h.symm)
            go_wp2_with (go_at_call 27; refine (fat_any _ _ _ _).mono ?_; rintro e w' ⟨rfl, rfl⟩)
            go_ret
            exact ⟨by rw [HR.out]; rfl, hB⟩
          · rw [hmd] at mc
            have HF1 : Hid (ff (fun _ b => b) (mk.drop (p + 1)) (p + 1) = ff (fun _ b => b) (mk.drop 1) 1) := by have h := HE.out; rw [hmd, if_pos rfl] at h; exact h
            clear HE
            go_wp2_with fail
            go_roundw
            case rel => exact ⟨p + 1, by omega, by omega, by go_num, HF1, hB, BM⟩
            case measure => simp [intOf]; omega
        · have HR : Hid (optF (fnsV cs) = none) := fns_0 H6.out (by rw [← HF.out]; exact ff_end _ (by omega))
          clear HF
          go_wp2_with fail
          go_ret
          exact ⟨by rw [HR.out]; rfl, hB⟩
end Go.Proofs.YtmicnjphlakoaaaGreatDoor
