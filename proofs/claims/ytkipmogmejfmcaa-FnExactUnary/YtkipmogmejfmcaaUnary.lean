/-
  OWN WORK. Unary: both contracts at one function.
-/
import Derived.Test.YtkipmogmejfmcaaSUnary
import Derived.Test.YtkipmogmejfmcaaIUnA
import Derived.Test.YtkipmogmejfmcaaIUnB
import Derived.Test.YtkipmogmejfmcaaIUnC
import Derived.Test.YtkipmogmejfmcaaEq
namespace Go.Proofs.Ytkipmogmejfmcaa
open Go.RowKit
set_option linter.unusedVariables false

/-- What Unary answers. -/
def unV (o k n : Int) (f : Nat) (s : ByteArray) (r : Int) : Value :=
  if vok k n f s r = false then RV 1 0 0 0 ⟨#[]⟩ 0
  else if o = 21 then RV 0 1 (b01 (!tru k n f s r)) 0 ⟨#[]⟩ 0
  else if o = 19 ∧ k = 2 then RV 0 2 (wrap64 (-n)) 0 ⟨#[]⟩ 0
  else if o = 19 ∧ k = 3 then RV 0 3 0 (Op.negFloat .f64 f) ⟨#[]⟩ 0
  else if o = 20 ∧ k = 2 then RV 0 2 (bits .xor .i64 (-1) n) 0 ⟨#[]⟩ 0
  else if o = 22 ∧ k = 4 then RV 0 2 s.size 0 ⟨#[]⟩ 0
  else RV 1 0 0 0 ⟨#[]⟩ 0

theorem unV_agg (o k n : Int) (f : Nat) (s : ByteArray) (r : Int) : ∃ c k' n' f' s' r', unV o k n f s r = RV c k' n' f' s' r' := by
  unfold unV
  repeat' split
  all_goals exact ⟨_, _, _, _, _, _, rfl⟩

theorem res_of {o k n : Int} {f : Nat} {s : ByteArray} {r : Int} {v : Value} {w : World} {g : FuncId} (h : Calls Try.prog g #[.int .i64 o, VV k n f s r] w fun e w' => e = .returned v ∧ Below w.heap.size w w') (hu : unV o k n f s r = v) :
    Calls Try.prog g #[.int .i64 o, VV k n f s r] w fun e w' => e = .returned (unV o k n f s r) ∧ Below w.heap.size w w' := by rw [hu]; exact h

theorem sun_any (o k n : Int) (f : Nat) (s : ByteArray) (r : Int) (w : World) (hs : s.size ≤ maxLen) :
    Calls Try.prog 33 #[.int .i64 o, VV k n f s r] w fun e w' => e = .returned (unV o k n f s r) ∧ Below w.heap.size w w' := by
  by_cases hv : vok k n f s r = false
  · exact res_of (sun_bad o k n f s r w hs hv) (by simp [unV, hv])
  · replace hv : vok k n f s r = true := by simpa using hv
    by_cases h21 : o = 21
    · subst h21; exact res_of (sun_not k n f s r w hs hv) (by simp [unV, hv])
    · by_cases h19 : o = 19
      · subst h19
        by_cases h2 : k = 2
        · subst h2; exact res_of (sun_negi n f s r w hs hv) (by simp [unV, hv])
        · by_cases h3 : k = 3
          · subst h3; exact res_of (sun_negf n f s r w hs hv) (by simp [unV, hv])
          · exact res_of (sun_neg_no k n f s r w hs hv (by simpa using h2) (by simpa using h3)) (by simp [unV, hv, h2, h3])
      · by_cases h20 : o = 20
        · subst h20
          by_cases h2 : k = 2
          · subst h2; exact res_of (sun_flip n f s r w hs hv) (by simp [unV, hv])
          · exact res_of (sun_flip_no k n f s r w hs hv (by simpa using h2)) (by simp [unV, hv, h2])
        · by_cases h22 : o = 22
          · subst h22
            by_cases h4 : k = 4
            · subst h4; exact res_of (sun_len n f s r w hs hv) (by simp [unV, hv])
            · exact res_of (sun_len_no k n f s r w hs hv (by simpa using h4)) (by simp [unV, hv, h4])
          · exact res_of (sun_op_no o k n f s r w hs hv (by simpa using h19) (by simpa using h20) (by simpa using h21) (by simpa using h22)) (by simp [unV, hv, h19, h20, h21, h22])

theorem iun_any (o k n : Int) (f : Nat) (s : ByteArray) (r : Int) (w : World) :
    Calls Try.prog 34 #[.int .i64 o, VV k n f s r] w fun e w' => e = .returned (unV o k n f s r) ∧ Below w.heap.size w w' := by
  by_cases ho : o = 19 ∨ o = 20 ∨ o = 21 ∨ o = 22
  · by_cases hv : vok k n f s r = false
    · rcases ho with rfl | rfl | rfl | rfl
      · exact res_of (iun_bad19 k n f s r w hv) (by simp [unV, hv])
      · exact res_of (iun_bad20 k n f s r w hv) (by simp [unV, hv])
      · exact res_of (iun_bad21 k n f s r w hv) (by simp [unV, hv])
      · exact res_of (iun_bad22 k n f s r w hv) (by simp [unV, hv])
    · replace hv : vok k n f s r = true := by simpa using hv
      rcases ho with rfl | rfl | rfl | rfl
      · rcases vok_kind hv with rfl | rfl | rfl | rfl | rfl | rfl | rfl | rfl | rfl
        · exact res_of (iun19_0 n f s r w hv) (by simp [unV, hv])
        · exact res_of (iun19_1 n f s r w hv) (by simp [unV, hv])
        · exact res_of (iun19_2 n f s r w hv) (by simp [unV, hv])
        · exact res_of (iun19_3 n f s r w hv) (by simp [unV, hv])
        · exact res_of (iun19_4 n f s r w hv) (by simp [unV, hv])
        · exact res_of (iun19_5 n f s r w hv) (by simp [unV, hv])
        · exact res_of (iun19_6 n f s r w hv) (by simp [unV, hv])
        · exact res_of (iun19_7 n f s r w hv) (by simp [unV, hv])
        · exact res_of (iun19_8 n f s r w hv) (by simp [unV, hv])
      · rcases vok_kind hv with rfl | rfl | rfl | rfl | rfl | rfl | rfl | rfl | rfl
        · exact res_of (iun20_0 n f s r w hv) (by simp [unV, hv])
        · exact res_of (iun20_1 n f s r w hv) (by simp [unV, hv])
        · exact res_of (iun20_2 n f s r w hv) (by simp [unV, hv])
        · exact res_of (iun20_3 n f s r w hv) (by simp [unV, hv])
        · exact res_of (iun20_4 n f s r w hv) (by simp [unV, hv])
        · exact res_of (iun20_5 n f s r w hv) (by simp [unV, hv])
        · exact res_of (iun20_6 n f s r w hv) (by simp [unV, hv])
        · exact res_of (iun20_7 n f s r w hv) (by simp [unV, hv])
        · exact res_of (iun20_8 n f s r w hv) (by simp [unV, hv])
      · rcases vok_kind hv with rfl | rfl | rfl | rfl | rfl | rfl | rfl | rfl | rfl
        · exact res_of (iun21_0 n f s r w hv) (by simp [unV, hv, tru])
        · exact res_of (iun21_1 n f s r w hv) (by simp [unV, hv, tru])
        · exact res_of (iun21_2 n f s r w hv) (by simp [unV, hv, tru])
        · exact res_of (iun21_3 n f s r w hv) (by simp [unV, hv, tru])
        · exact res_of (iun21_4 n f s r w hv) (by simp [unV, hv, tru])
        · exact res_of (iun21_5 n f s r w hv) (by simp [unV, hv, tru])
        · exact res_of (iun21_6 n f s r w hv) (by simp [unV, hv, tru])
        · exact res_of (iun21_7 n f s r w hv) (by simp [unV, hv, tru])
        · exact res_of (iun21_8 n f s r w hv) (by simp [unV, hv, tru])
      · rcases vok_kind hv with rfl | rfl | rfl | rfl | rfl | rfl | rfl | rfl | rfl
        · exact res_of (iun22_0 n f s r w hv) (by simp [unV, hv])
        · exact res_of (iun22_1 n f s r w hv) (by simp [unV, hv])
        · exact res_of (iun22_2 n f s r w hv) (by simp [unV, hv])
        · exact res_of (iun22_3 n f s r w hv) (by simp [unV, hv])
        · exact res_of (iun22_4 n f s r w hv) (by simp [unV, hv])
        · exact res_of (iun22_5 n f s r w hv) (by simp [unV, hv])
        · exact res_of (iun22_6 n f s r w hv) (by simp [unV, hv])
        · exact res_of (iun22_7 n f s r w hv) (by simp [unV, hv])
        · exact res_of (iun22_8 n f s r w hv) (by simp [unV, hv])
  · exact res_of (iun_op o k n f s r w (by simp; omega) (by simp; omega) (by simp; omega) (by simp; omega)) (by
      unfold unV
      split
      · rfl
      · rw [if_neg (by omega), if_neg (by omega), if_neg (by omega), if_neg (by omega), if_neg (by omega)])
end Go.Proofs.Ytkipmogmejfmcaa
