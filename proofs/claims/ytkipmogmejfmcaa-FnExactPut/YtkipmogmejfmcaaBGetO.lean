/-
  OWN WORK. The program's Get of a valid table.
-/
import Derived.Test.YtkipmogmejfmcaaBGetW
namespace Go.Proofs.Ytkipmogmejfmcaa
open Go.RowKit
attribute [local go_sem] run_store_float
set_option linter.unusedVariables false

theorem Book.bt {S : List Nat} {w wx : World} {bk lb mb cap : Nat} {ds : List PD} {turns : Int} (hb : Bt S w wx) (n1 : bk ∉ S) (n2 : lb ∉ S) (n3 : mb ∉ S) (h : Book w bk lb mb cap ds turns) : Book wx bk lb mb cap ds turns := by
  obtain ⟨h1, ⟨ar, h2, h3, h4⟩, h5, m1, m2, m3⟩ := h
  exact ⟨(hb.block bk (Array.getElem?_eq_some_iff.1 h1).1 n1).trans h1, ⟨ar, (hb.block lb (Array.getElem?_eq_some_iff.1 h2).1 n2).trans h2, h3, h4⟩, h5.bt hb n3, m1, m2, m3⟩
theorem book_lt {w : World} {bk lb mb cap : Nat} {ds : List PD} {turns : Int} (h : Book w bk lb mb cap ds turns) : bk < w.heap.size ∧ lb < w.heap.size ∧ mb < w.heap.size := by
  obtain ⟨h1, ⟨ar, h2, h3, h4⟩, ⟨es, cl, h5, _⟩, m1, m2, m3⟩ := h
  exact ⟨(Array.getElem?_eq_some_iff.1 h1).1, (Array.getElem?_eq_some_iff.1 h2).1, (Array.getElem?_eq_some_iff.1 h5).1⟩
theorem bt_set6 (w : World) (k : Nat) (v0 v1 v2 v3 v4 v5 : Value) : Bt [k] w ((((((w.setCell ⟨k, 0, none⟩ v0).setCell ⟨k, 1, none⟩ v1).setCell ⟨k, 2, none⟩ v2).setCell ⟨k, 3, none⟩ v3).setCell ⟨k, 4, none⟩ v4).setCell ⟨k, 5, none⟩ v5) :=
  ((((((Bt.refl [k] w).setCell (p := ⟨k, 0, none⟩) (by simp) v0).setCell (p := ⟨k, 1, none⟩) (by simp) v1).setCell (p := ⟨k, 2, none⟩) (by simp) v2).setCell (p := ⟨k, 3, none⟩) (by simp) v3).setCell (p := ⟨k, 4, none⟩) (by simp) v4).setCell (p := ⟨k, 5, none⟩) (by simp) v5

/-- What Key makes is a key. -/
theorem key_kk {q : VD} (h0 : (keyD q).1 = 0) : (keyD q).2.kk = true := by
  revert h0
  unfold keyD
  split
  · intro h; cases h
  · rename_i hv
    have hv' : vok q.k q.n q.f q.s q.r = true := by simpa using hv
    split
    · intro h; cases h
    · rename_i hk0
      split
      · rename_i h3
        split
        · intro h; cases h
        · rename_i hnan
          have hn' : FloatKind.f64.format.order q.f q.f = some .eq := by simpa using hnan
          split
          · intro _; exact vint_kk _
          · rename_i hw
            intro _
            unfold VD.kk kok
            simp only
            rw [h3] at hv'
            rw [hv', decide_eq_true hn', decide_eq_false hw]
            rfl
      · rename_i h3
        intro _
        unfold VD.kk kok
        have e0 : (q.k == 0) = false := by simpa using hk0
        have e3 : (q.k == 3) = false := by simpa using h3
        rw [hv', e0, e3]
        rfl
theorem key_f {q : VD} (hq : q.ok) : (keyD q).2.f < 18446744073709551616 := (keyV_ok hq.1 hq.2 (keyV_D q)).1

/-- What a book has at a key. -/
def getB (ps : List PD) (q : VD) : VD := if fidx q ps 0 < 0 then vd0 else ((ps[(fidx q ps 0).toNat]?.map (·.val)).getD vd0)

theorem bget_any (bk lb mb cap : Nat) (ps : List PD) (turns : Int) (q : VD) (w : World) (hlen : ps.length ≤ 1048576) (hB : Book w bk lb mb cap ps turns) (hps : ∀ d ∈ ps, d.key.f < 18446744073709551616 ∧ d.key.kk = true) (hqf : q.f < 18446744073709551616) (hq : q.kk = true) :
    Calls Try.prog 85 #[.pointer (some ⟨bk, 0, none⟩), q.v] w fun e w' => e = .returned (getB ps q).v ∧ Below w.heap.size w w' := by
  have he := eidx_fidx q hqf hq ps 0 hps
  by_cases h0 : fidx q ps 0 < 0
  · have e : getB ps q = vd0 := by unfold getB; rw [if_pos h0]
    rw [e]; exact bget_none bk lb mb cap ps turns q w hB (by rw [he]; exact h0)
  · rcases fidx_get q ps 0 with h | ⟨m, p, h1, h2⟩
    · omega
    · rw [Nat.zero_add] at h1
      have e : getB ps q = p.val := by unfold getB; rw [if_neg h0, h1, Int.toNat_natCast, h2]; rfl
      rw [e]
      exact bget_some bk lb mb cap ps turns q w hlen hB m p (List.getElem?_eq_some_iff.1 h2).1 h2 (by rw [he]; exact h1)

set_option maxRecDepth 20000 in
set_option maxHeartbeats 12000000 in
theorem iget_ok (b off len cap : Nat) (ps : List PD) (turns : Int) (q : VD) (w : World) (hl : ps.length = len) (hp : PAt w b off ps) (hlen : len ≤ 1048576) (hok : ∀ p ∈ ps, p.ok) (hq : q.ok) (ht : tokV ps turns = true) :
    Calls Try.prog 44 #[.agg #[.slice (some ⟨b, off, none⟩) len cap, .int .i64 turns], q.v] w fun e w' => e = .returned (getL ps q).v ∧ Below w.heap.size w w' := by
  obtain ⟨qc, hqc⟩ : ∃ qc, qc = (keyD q).1 := ⟨_, rfl⟩
  obtain ⟨q', hq'⟩ : ∃ q', q' = (keyD q).2 := ⟨_, rfl⟩
  have hU := keyV_D q
  rw [← hqc, ← hq'] at hU
  have HU : Hid (keyV q.k q.n q.f q.s q.r = RV qc q'.k q'.n q'.f q'.s q'.r) := hU
  have HQC : Hid (qc = (keyD q).1) := hqc
  have HQ' : Hid (q' = (keyD q).2) := hq'
  have HT : Hid (tokV ps turns = true) := ht
  have HO : Hid (∀ p ∈ ps, p.ok) := hok
  clear hqc hq' hU hok
  obtain ⟨w1, hw, hb, t0, t1, hQ, sl⟩ := box3 w b off len cap turns q
  have HP : Hid (PAt w1 b off ps) := hp.later hb
  have HQ : Hid (VBox w1 (w.heap.size + 1) q) := hQ
  have HSL : Hid (Slot5 w1 (w.heap.size + 1 + 1)) := sl
  clear hp
  obtain ⟨d0, d1, d2, d3, d4⟩ := hQ
  have hz1 := World.block_lt_of_cell? _ _ t0
  have hz2 := World.block_lt_of_cell? _ _ d0
  have hz3 : w.heap.size + 1 + 1 < w1.heap.size := by obtain ⟨_, _, _, _, _, _, h⟩ := sl; exact (Array.getElem?_eq_some_iff.1 h).1
  clear sl
  go_enter Try.func44, Try.ntmps44
  go_upto_region 1 with fail
  rw [← hw]; clear hw
  go_cut [5, 6] from 7 to 10 (fun s5 s6 wx => (∃ bk, s5 = .pointer (some ⟨bk, 0, none⟩) ∧ Hid (∃ lb mb, Book wx bk lb mb (ps.length + 1) ps turns)) ∧ ∃ k6, s6 = .pointer (some ⟨k6, 0, none⟩) ∧ Hid (RBox wx k6 qc q') ∧ Hid (Slot5 wx (w.heap.size + 1 + 1)) ∧ Hid (Below w.heap.size w wx))
  case first =>
    go_region_with (first
      | (go_at_call 79; refine (book_yes b off len cap ps turns _ hl (by exact HP.out.later (by first | exact (Below.refl _ _).drew | exact (bw1 _ _).drew)) hlen HO.out HT.out).mono ?_; rintro e w2 ⟨bk, lb, mb, rfl, hgs, hBk, hx⟩; (try simp at hgs); obtain ⟨hl1, hl2, hl3⟩ := book_lt hBk; have HBK : Hid (Book w2 bk lb mb (ps.length + 1) ps turns) := hBk; clear hBk; (first | (have hxa : Below (w1.alloc (.cells #[.int .i64 0, .int .i64 0, .int .i64 0, .float .f64 0, .string ⟨#[]⟩, .int .i64 0] 43)).heap.size (w1.alloc (.cells #[.int .i64 0, .int .i64 0, .int .i64 0, .float .f64 0, .string ⟨#[]⟩, .int .i64 0] 43)) w2 := und1 hx; obtain ⟨hx1, sx⟩ := box0s hxa; clear hxa) | have hx1 : Below w1.heap.size w1 w2 := und1 hx); replace d0 := cell_later hx1 d0; replace d1 := cell_later hx1 d1; replace d2 := cell_later hx1 d2; replace d3 := cell_later hx1 d3; replace d4 := cell_later hx1 d4; have hz4 := World.block_lt_of_cell? _ _ d0; clear hx)
      | (go_at_call 31; refine (ik_any _ _ _ _ _ _ hq.1).mono ?_; rw [HU.out]; rintro e w3 ⟨rfl, hx⟩; (first | (have hxa : Below (w2.alloc (.cells #[.int .i64 0, .int .i64 0, .int .i64 0, .float .f64 0, .string ⟨#[]⟩, .int .i64 0] 43)).heap.size (w2.alloc (.cells #[.int .i64 0, .int .i64 0, .int .i64 0, .float .f64 0, .string ⟨#[]⟩, .int .i64 0] 43)) w3 := hx; obtain ⟨hx3, sx⟩ := box0s hxa; clear hxa) | have hx3 : Below w2.heap.size w2 w3 := hx); (try (have sx' := Slot.later hx3 sx; clear sx; have sx := sx'; clear sx')); have hx2 := hx1.trans (hx3.mono hx1.size); (try (have hsx := Slot.cells sx; obtain ⟨y0, y1, y2, y3, y4, y5, m0, m1, m2, m3, m4, m5, z6, hz6⟩ := hsx)); clear hx))
    all_goals
      have hs1 := hb.size
      have hs2 := hx1.size
      have hs3 := hx2.size
      clear d0 d1 d2 d3 d4
      go_wp2_with fail
      go_meet
      first
        | (have sx0 := sx; exact ⟨⟨bk, rfl, lb, mb, Book.bt (bt_set6 _ _ _ _ _ _ _ _) (by simp; omega) (by simp; omega) (by simp; omega) (HBK.out.later hx3)⟩, _, rfl, rbox_set sx _ _, slot5_set6 (Slot5.later hx2 HSL.out) (by omega) _ _ _ _ _ _, below6 (hb.trans (hx2.mono hb.size)) (by omega) _ _ _ _ _ _⟩)
        | (refine ⟨⟨bk, rfl, lb, mb, (HBK.out.later hx3).later (bw1 _ _)⟩, _, rfl, ⟨?_, ?_, ?_, ?_, ?_, ?_⟩, Slot5.later (bwN hx2 _) HSL.out, bwN (hb.trans (hx2.mono hb.size)) _⟩ <;> simp [go_sem])
  case rest =>
    obtain ⟨⟨bk, rfl, HBK⟩, k6, rfl, HR, HS, HBl⟩ := hcut
    clear d0 d1 d2 d3 d4 t0 t1 hz1 hz2 hz3
    have sl := HS.out
    obtain ⟨r0, r1, r2, r3, r4, r5⟩ := HR.out
    by_cases hc : qc = 0
    · have H0 : Hid ((keyD q).1 = 0) := HQC.out.symm.trans hc
      have hv : getL ps q = getB ps q' := by unfold getL getB; rw [if_pos H0.out, HQ'.out]
      obtain ⟨gv, hgv⟩ : ∃ gv, gv = getB ps q' := ⟨_, rfl⟩
      have HV : Hid (getL ps q = gv) := hv.trans hgv.symm
      have HG : Hid (gv = getB ps q') := hgv
      clear hv hgv
      subst hc
      go_wp2_with fail
      obtain ⟨lb, mb, hBk⟩ := HBK.out
      refine (bget_any bk lb mb (ps.length + 1) ps turns q' _ (by omega) hBk (fun d hd => ⟨(HO.out d hd).1.1, tokV_kk HT.out d hd⟩) (by rw [HQ'.out]; exact key_f hq) (by rw [HQ'.out]; exact key_kk H0.out)).mono ?_
      rw [← HG.out]
      rintro e w4 ⟨rfl, hx⟩
      replace sl := Slot5.later hx sl
      have hb4 := HBl.out.trans (hx.mono HBl.out.size)
      clear hx hBk r0 r1 r2 r3 r4 r5
      obtain ⟨v0, v1, v2, v3, v4, e0, e1, e2, e3, e4, z, hz⟩ := sl.cells
      go_wp2_with fail
      exact bodyPost_ret (v := gv.v) (by simp [results, Try.results44, go_sem, e0, e1, e2, e3, e4]) rfl ⟨by rw [HV.out], below5 hb4 (by omega) _ _ _ _ _⟩
    · have hv : getL ps q = vd0 := by unfold getL; rw [if_neg (by rw [← HQC.out]; exact hc)]
      have HV : Hid (getL ps q = vd0) := hv
      have hc' : (qc != 0) = true := by simpa using hc
      clear hv
      obtain ⟨v0, v1, v2, v3, v4, e0, e1, e2, e3, e4, z, hz⟩ := sl.cells
      go_wp2_with fail
      exact bodyPost_ret (v := VV 0 0 0 ⟨#[]⟩ 0) (by simp [results, Try.results44, go_sem, e0, e1, e2, e3, e4]) rfl ⟨by rw [HV.out]; rfl, below5 HBl.out (by omega) _ _ _ _ _⟩
end Go.Proofs.Ytkipmogmejfmcaa
