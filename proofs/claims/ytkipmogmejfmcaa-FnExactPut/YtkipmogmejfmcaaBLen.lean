/-
  OWN WORK. The program's book: Length.
-/
import Derived.Test.YtkipmogmejfmcaaBBook
namespace Go.Proofs.Ytkipmogmejfmcaa
open Go.RowKit
attribute [local go_sem] run_store_float
set_option linter.unusedVariables false

theorem eidx_fidx (q : VD) (hqf : q.f < 18446744073709551616) (hq : q.kk = true) (ps : List PD) (i : Nat) (hps : ∀ d ∈ ps, d.key.f < 18446744073709551616 ∧ d.key.kk = true) : eidx q ps i = fidx q ps i := by
  induction ps generalizing i with
  | nil => rfl
  | cons d ds ih =>
    have hd := hps d (by simp)
    have he : eqb q d.key = samV d.key.k d.key.n d.key.f d.key.s d.key.r q.k q.n q.f q.s q.r := eqb_sam hqf hd.1 hq hd.2
    unfold eidx fidx
    rw [he, ih (i + 1) (fun d' hd' => hps d' (by simp [hd']))]

theorem tokL_kk {turns : Int} {rest : List PD} : ∀ {ds : List PD} {last : Int}, tokL turns ds rest last = true → ∀ p ∈ rest, p.key.kk = true := by
  induction rest with
  | nil => intro ds last _ p hp; cases hp
  | cons d rest ih =>
    intro ds last h p hp
    unfold tokL at h
    simp only [Bool.and_eq_true] at h
    rcases List.mem_cons.1 hp with rfl | hp
    · exact h.1.1.1.1.1.1
    · exact ih h.2 p hp
theorem tokV_kk {ps : List PD} {turns : Int} (h : tokV ps turns = true) : ∀ p ∈ ps, p.key.kk = true := by
  unfold tokV at h
  simp only [Bool.and_eq_true] at h
  exact tokL_kk h.2
theorem tokV_len {ps : List PD} {turns : Int} (h : tokV ps turns = true) : ps.length ≤ 500 ∧ 0 ≤ turns ∧ turns ≤ 1000000000000 := by
  unfold tokV at h
  simp only [Bool.and_eq_true, decide_eq_true_eq] at h
  exact ⟨h.1.1.1, h.1.1.2, h.1.2⟩

theorem run_fld (c k n : Int) (f : Nat) (s : ByteArray) (r : Int) (w : World) : (Instr.field 43 (.agg #[.int .i64 c, .int .i64 k, .int .i64 n, .float .f64 f, .string s, .int .i64 r]) 1).run Try.prog w = .ok (.agg #[.int .i64 k, .int .i64 n, .float .f64 f, .string s, .int .i64 r]) w := by kernel_rfl

theorem vint_kk (a : Int) : (vint a).kk = true := by
  have h0 : fz 0 = true := by decide
  simp [VD.kk, kok, vint, vok, zr, h0]

set_option maxRecDepth 20000 in
set_option maxHeartbeats 1000000 in
theorem ilen_book (bk lb mb cap len : Nat) (ps : List PD) (turns : Int) (w : World) (hl : ps.length = len) (hlen : len ≤ 1048576) (hB : Book w bk lb mb cap ps turns) (hps : ∀ d ∈ ps, d.key.f < 18446744073709551616 ∧ d.key.kk = true) :
    Calls Try.prog 88 #[.pointer (some ⟨bk, 0, none⟩)] w fun e w' => e = .returned (.int .i64 (lenF ps (len + 1) 0)) ∧ Below w.heap.size w w' := by
  have HB : Hid (Book w bk lb mb cap ps turns) := hB
  have HO : Hid (∀ d ∈ ps, d.key.f < 18446744073709551616 ∧ d.key.kk = true) := hps
  clear hB hps
  go_enter Try.func88, Try.ntmps88
  go_wp2_with fail
  go_loopw [3] (fun nn wr => ∃ m : Nat, nn = .int .i64 m ∧ m + mu ps m ≤ len ∧ Below w.heap.size w wr ∧ Hid (lenF ps (len + 1 - m) m = lenF ps (len + 1) 0)) (fun nn _ => mu ps (intOf nn).toNat)
  case atStart => exact ⟨0, rfl, by have := mu_le ps 0; omega, Below.refl _ _, rfl⟩
  case round =>
    obtain ⟨m, rfl, hmu, hB, hF⟩ := hrel
    have hm : m ≤ len := by omega
    have hstep : len + 1 - m = (len - m) + 1 := by omega
    have HD : Hid ((if 0 ≤ fidx (vint ((m : Int) + 1)) ps 0 then lenF ps (len - m) (m + 1) else m) = lenF ps (len + 1) 0) := by
      have := hF.out; rw [hstep] at this; exact this
    clear hF hstep
    have HMU : Hid (m + mu ps m ≤ len) := hmu
    have HE : Hid (eidx (vint ((m : Int) + 1)) ps 0 = fidx (vint ((m : Int) + 1)) ps 0) := eidx_fidx _ (by show 0 < 18446744073709551616; omega) (vint_kk _) ps 0 HO.out
    have hwr : IntKind.i64.wrap ((m : Int) + 1) = (m : Int) + 1 := by rw [IntKind.wrap_i64]; omega
    clear hmu
    have hfl := run_fld 0 2 ((m : Int) + 1) 0 ⟨#[]⟩ 0
    have HL : ∀ x : Lat wr, Hid (MapAt x.wd mb ps) := fun x => HB.out.map.later (hB.trans (x.below.mono hB.size))
    have HC1 : ∀ x : Lat wr, Hid (x.wd.cell? ⟨bk, 1, none⟩ = some (.map (some mb))) := fun x => lat_cell (cell_later hB (by rw [blk_cell HB.out.head]; rfl)) x
    by_cases k1 : 0 ≤ fidx (vint ((m : Int) + 1)) ps 0
    · have HR : Hid (lenF ps (len - m) (m + 1) = lenF ps (len + 1) 0) := by have := HD.out; rw [if_pos k1] at this; exact this
      have HS : Hid (mu ps (m + 1) < mu ps m) := by
        rcases fidx_lt (vint ((m : Int) + 1)) ps 0 with h | ⟨_, p, hp, hs⟩
        · omega
        · exact mu_step ps m p hp (sam_int hs)
      have k3 : decide (0 ≤ eidx (vint ((m : Int) + 1)) ps 0) = true := by rw [HE.out]; simpa using k1
      clear HD
      go_wp2_with fail
      haveI := lat_some wr
      refine wp_region_lat (by kernel_rfl) (by kernel_rfl) ?_
      repeat (go_big_quiet_step (first | (go_at_call 74; refine lat_calls (v := .agg #[.int .i64 0, .int .i64 2, .int .i64 ((m : Int) + 1), .float .f64 0, .string ⟨#[]⟩, .int .i64 0]) (ig_int _ _)) | (go_at_call 108; refine lat_calls (find_any (vint ((m : Int) + 1)) bk mb ps _ (HL _).out (HC1 _).out))))
      refine wpQuiet_nil ?_
      rintro _ ⟨nq, rfl⟩
      clear hwr
      go_wp2_with fail
      go_roundw
      case rel => exact ⟨m + 1, by go_num, by have h1 := HMU.out; have h2 := HS.out; omega, hB.trans (nq.below.mono hB.size), by have h := HR.out; rw [show len - m = len + 1 - (m + 1) by omega] at h; exact h⟩
      case measure =>
        have h := HS.out
        simp only [intOf] at *
        first | exact h | (simp; exact h) | simpa using h
    · have HR : Hid ((m : Int) = ((lenF ps (len + 1) 0 : Nat) : Int)) := by
        have := HD.out; rw [if_neg k1] at this; show (m : Int) = _; rw [this]
      clear HD HMU
      have k3 : decide (0 ≤ eidx (vint ((m : Int) + 1)) ps 0) = false := by rw [HE.out]; simpa using k1
      go_wp2_with fail
      haveI := lat_some wr
      refine wp_region_lat (by kernel_rfl) (by kernel_rfl) ?_
      repeat (go_big_quiet_step (first | (go_at_call 74; refine lat_calls (v := .agg #[.int .i64 0, .int .i64 2, .int .i64 ((m : Int) + 1), .float .f64 0, .string ⟨#[]⟩, .int .i64 0]) (ig_int _ _)) | (go_at_call 108; refine lat_calls (find_any (vint ((m : Int) + 1)) bk mb ps _ (HL _).out (HC1 _).out))))
      refine wpQuiet_nil ?_
      rintro _ ⟨nq, rfl⟩
      clear hwr
      go_wp2_with fail
      go_ret
      exact ⟨ret_i HR.out, hB.trans (nq.below.mono hB.size)⟩

set_option maxRecDepth 20000 in
set_option maxHeartbeats 1000000 in
theorem ilen_any (b off len cap : Nat) (ps : List PD) (turns : Int) (w : World) (hl : ps.length = len) (hp : PAt w b off ps) (hlen : len ≤ 1048576) (hok : ∀ p ∈ ps, p.ok) :
    Calls Try.prog 47 #[.agg #[.slice (some ⟨b, off, none⟩) len cap, .int .i64 turns]] w fun e w' => e = .returned (.int .i64 (if tokV ps turns = true then ((lenF ps (len + 1) 0 : Nat) : Int) else 0)) ∧ Below w.heap.size w w' := by
  have HP : Hid (PAt w b off ps) := hp
  have HO : Hid (∀ p ∈ ps, p.ok) := hok
  clear hp hok
  by_cases ht : tokV ps turns = true
  · rw [if_pos ht]
    have HT : Hid (tokV ps turns = true) := ht
    go_enter Try.func47, Try.ntmps47
    go_wp2_with fail
    refine (book_any b off len cap ps turns _ hl (by exact HP.out.later (bw1 _ _)) hlen HO.out).mono ?_
    rintro e w1 ⟨hx, ⟨_, bk, lb, mb, rfl, _, _, _, hB⟩ | ⟨ht', rfl⟩⟩
    · have hb := (bw1 _ _).trans (hx.mono (by simp))
      have HB : Hid (Book w1 bk lb mb (ps.length + 1) ps turns) := hB
      clear hx hB
      go_wp2_with fail
      refine (ilen_book bk lb mb (ps.length + 1) len ps turns _ hl hlen HB.out (fun d hd => ⟨(HO.out d hd).1.1, tokV_kk HT.out d hd⟩)).mono ?_
      rintro e w2 ⟨rfl, hx⟩
      replace hb := hb.trans (hx.mono hb.size)
      go_wp2_with fail
      go_ret
      exact ⟨rfl, hb⟩
    · rw [ht] at ht'; cases ht'
  · rw [if_neg ht]
    go_enter Try.func47, Try.ntmps47
    go_wp2_with fail
    refine (book_any b off len cap ps turns _ hl (by exact HP.out.later (bw1 _ _)) hlen HO.out).mono ?_
    rintro e w1 ⟨hx, ⟨ht', _⟩ | ⟨ht', rfl⟩⟩
    · exact absurd ht' ht
    · have hb := (bw1 _ _).trans (hx.mono (by simp))
      clear hx
      go_wp2_with fail
      go_ret
      exact ⟨rfl, hb⟩
end Go.Proofs.Ytkipmogmejfmcaa
