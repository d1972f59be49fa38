/-
  OWN WORK. The program's book: a pair that may stand in a table.
-/
import Derived.Test.YtkipmogmejfmcaaBEq
import Derived.Test.YtkipmogmejfmcaaTabSp
namespace Go.Proofs.Ytkipmogmejfmcaa
open Go.RowKit
attribute [local go_sem] run_store_float
set_option linter.unusedVariables false

theorem key_eqb (q : VD) (h0 : (keyD q).1 = 0) : eqb (keyD q).2 q = q.kk := by
  have hk : q.kk = ((keyD q).1 == 0 && (keyD q).2.k == q.k) := kok_of (keyV_D q)
  rw [h0] at hk
  rw [hk]
  by_cases hkk : (keyD q).2.k = q.k
  · have e : ((keyD q).2.k == q.k) = true := by simpa using hkk
    unfold eqb
    rw [e]
    simp only [Bool.true_and, beq_self_eq_true]
    revert h0 hkk
    unfold keyD
    split
    · intro h; cases h
    · rename_i hv
      split
      · intro h; cases h
      · split
        · rename_i h3
          split
          · intro h; cases h
          · rename_i hnan
            split
            · intro _ h
              simp only [vint] at h
              omega
            · intro _ _
              have : FloatKind.f64.format.order q.f q.f = some .eq := by simpa using hnan
              simp [this]
        · rename_i h3
          intro _ _
          have := fz_eq (v_fz (by simpa using hv) h3) (v_fz (by simpa using hv) h3)
          simp [this]
  · have e : ((keyD q).2.k == q.k) = false := by simpa using hkk
    unfold eqb
    rw [e]
    simp

theorem run_eql (a b : VD) (w : World) : (binOp .eql 27 a.v b.v).run Try.prog w = .ok (.bool (eqb a b)) w := by
  have := run_eqv a b w 9998
  rw [run_eql_struct, this]
  rfl

/-- A pair that may stand in a table. -/
def PD.pok (p : PD) : Bool := p.key.kk && vok p.val.k p.val.n p.val.f p.val.s p.val.r && !(p.val.k == 0)

set_option maxRecDepth 20000 in
set_option maxHeartbeats 1000000 in
theorem pok_code (p : PD) (w : World) (hk : p.key.ok) (h0 : ((keyD p.key).1 == 0) = false) :
    Calls Try.prog 107 #[PVal p] w fun e w' => e = .returned (.bool false) ∧ Below w.heap.size w w' := by
  obtain ⟨qc, hqc⟩ : ∃ qc, qc = (keyD p.key).1 := ⟨_, rfl⟩
  obtain ⟨q, hq⟩ : ∃ q, q = (keyD p.key).2 := ⟨_, rfl⟩
  have hU := keyV_D p.key
  rw [← hqc, ← hq] at hU
  rw [← hqc] at h0
  clear hqc hq
  go_enter Try.func107, Try.ntmps107
  go_wp2_with fail
  refine (ik_any _ _ _ _ _ _ hk.1).mono ?_
  rw [hU]
  rintro e w1 ⟨rfl, hx⟩
  obtain ⟨hb, d0, d1, d2, d3, d4, d5, d6, d7, d8, d9, d10⟩ := box11 hx
  have hlt := World.block_lt_of_cell? _ _ d0
  clear hx
  go_wp2_with fail
  go_ret
  exact ⟨rfl, bwN hb _⟩
set_option maxRecDepth 20000 in
set_option maxHeartbeats 1000000 in
theorem pok_key (p : PD) (w : World) (hk : p.key.ok) (h0 : (keyD p.key).1 = 0) (hkk : p.key.kk = false) :
    Calls Try.prog 107 #[PVal p] w fun e w' => e = .returned (.bool false) ∧ Below w.heap.size w w' := by
  obtain ⟨q, hq⟩ : ∃ q, q = (keyD p.key).2 := ⟨_, rfl⟩
  have hU := keyV_D p.key
  have hE := key_eqb p.key h0
  rw [h0, ← hq] at hU
  rw [← hq] at hE
  have hr := run_eql q p.key
  rw [hE, hkk] at hr
  clear hq hE
  go_enter Try.func107, Try.ntmps107
  go_wp2_with fail
  refine (ik_any _ _ _ _ _ _ hk.1).mono ?_
  rw [hU]
  rintro e w1 ⟨rfl, hx⟩
  obtain ⟨hb, d0, d1, d2, d3, d4, d5, d6, d7, d8, d9, d10⟩ := box11 hx
  have hlt := World.block_lt_of_cell? _ _ d0
  clear hx
  go_wp2_with fail
  go_ret
  exact ⟨rfl, bwN hb _⟩

set_option maxRecDepth 20000 in
set_option maxHeartbeats 1000000 in
theorem pok_rest (p : PD) (w : World) (hk : p.key.ok) (h0 : (keyD p.key).1 = 0) (hkk : p.key.kk = true) :
    Calls Try.prog 107 #[PVal p] w fun e w' => e = .returned (.bool (vok p.val.k p.val.n p.val.f p.val.s p.val.r && !(p.val.k == 0))) ∧ Below w.heap.size w w' := by
  obtain ⟨q, hq⟩ : ∃ q, q = (keyD p.key).2 := ⟨_, rfl⟩
  have hU := keyV_D p.key
  have hE := key_eqb p.key h0
  rw [h0, ← hq] at hU
  rw [← hq] at hE
  have hr := run_eql q p.key
  rw [hE, hkk] at hr
  clear hq hE
  go_enter Try.func107, Try.ntmps107
  go_wp2_with fail
  refine (ik_any _ _ _ _ _ _ hk.1).mono ?_
  rw [hU]
  rintro e w1 ⟨rfl, hx⟩
  obtain ⟨hb, d0, d1, d2, d3, d4, d5, d6, d7, d8, d9, d10⟩ := box11 hx
  have hlt := World.block_lt_of_cell? _ _ d0
  clear hx
  go_wp2_with fail
  refine (iok_any p.val.k p.val.n p.val.f p.val.s p.val.r _).mono ?_
  rintro e w2 ⟨rfl, hx⟩
  replace hb := (bwN hb _).trans (hx.mono (by have := hb.size; simp; omega))
  have hz := hx
  clear hx
  by_cases hv : vok p.val.k p.val.n p.val.f p.val.s p.val.r = false
  · go_wp2_with fail
    go_ret
    exact ⟨by simp [hv], hb⟩
  · replace hv : vok p.val.k p.val.n p.val.f p.val.s p.val.r = true := by simpa using hv
    have e5 := cell_later hz (cell_later (bw1 _ _) d5)
    go_wp2_with fail
    go_ret
    exact ⟨by simp [hv]; rfl, hb⟩

theorem pok_any (p : PD) (w : World) (hk : p.key.ok) :
    Calls Try.prog 107 #[PVal p] w fun e w' => e = .returned (.bool p.pok) ∧ Below w.heap.size w w' := by
  by_cases h0 : (keyD p.key).1 = 0
  · by_cases hkk : p.key.kk = true
    · have e : p.pok = (vok p.val.k p.val.n p.val.f p.val.s p.val.r && !(p.val.k == 0)) := by unfold PD.pok; rw [hkk, Bool.true_and]
      rw [e]; exact pok_rest p w hk h0 hkk
    · replace hkk : p.key.kk = false := by simpa using hkk
      have e : p.pok = false := by unfold PD.pok; rw [hkk]; rfl
      rw [e]; exact pok_key p w hk h0 hkk
  · have hk' : p.key.kk = ((keyD p.key).1 == 0 && (keyD p.key).2.k == p.key.k) := kok_of (keyV_D p.key)
    have h0' : ((keyD p.key).1 == 0) = false := by simpa using h0
    have e : p.pok = false := by unfold PD.pok; rw [hk', h0']; rfl
    rw [e]; exact pok_code p w hk h0'
end Go.Proofs.Ytkipmogmejfmcaa
