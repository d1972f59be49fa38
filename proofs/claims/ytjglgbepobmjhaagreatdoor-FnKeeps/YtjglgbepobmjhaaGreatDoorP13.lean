import Derived.Test.YtjglgbepobmjhaaGreatDoorP12
import Derived.Test.YtjglgbepobmjhaaGreatDoorP07
import Derived.LoopN
import Derived.BigRegion
import Derived.BigQuiet
import Derived.Deep.QuietTactic
set_option linter.unusedVariables false
set_option linter.unusedSimpArgs false
set_option maxRecDepth 20000
set_option maxHeartbeats 8000000
namespace Go.Proofs.YtjglgbepobmjhaaGreatDoor
open Go.RowKit
theorem idx4_0 (a0 a1 a2 a3 a4 a5 a6 a7 : Value) (w : World) : (Instr.index 234 (.agg #[a0,a1,a2,a3,a4,a5,a6,a7]) (.int .i64 0)).run Tryz.prog w = .ok (.agg #[a0,a1]) w:=by kernel_rfl
theorem idx4_1 (a0 a1 a2 a3 a4 a5 a6 a7 : Value) (w : World) : (Instr.index 234 (.agg #[a0,a1,a2,a3,a4,a5,a6,a7]) (.int .i64 1)).run Tryz.prog w = .ok (.agg #[a2,a3]) w:=by kernel_rfl
theorem idx4_2 (a0 a1 a2 a3 a4 a5 a6 a7 : Value) (w : World) : (Instr.index 234 (.agg #[a0,a1,a2,a3,a4,a5,a6,a7]) (.int .i64 2)).run Tryz.prog w = .ok (.agg #[a4,a5]) w:=by kernel_rfl
theorem idx4_3 (a0 a1 a2 a3 a4 a5 a6 a7 : Value) (w : World) : (Instr.index 234 (.agg #[a0,a1,a2,a3,a4,a5,a6,a7]) (.int .i64 3)).run Tryz.prog w = .ok (.agg #[a6,a7]) w:=by kernel_rfl
theorem lay_nat {k j : Nat} (h0 : 1 ≤ k) (h1 : k < 43) (hj : j < 4) : ∃ r : Nat,li k j = r∧r < 24∧conv r = rl (k : Int) j:=by
 obtain ⟨a,b,c⟩:=lay_fits ⟨k,h1⟩ h0 ⟨j,hj⟩
 simp only at a b c
 exact ⟨(li k j).toNat,by omega,by omega,c⟩
theorem iins_any (b off len cap p : Nat) (f : FC) (n : ID) (w : World) (hpl : p < len) (hlen : len ≤ 1048576) (hc : Cell9 w b (off + p * 9) f) (ok : f.d.ok) (hr0 : 0 ≤ f.d.regs) (hr1 : f.d.regs ≤ 250) (hl : LayAt w) :
  Calls Tryz.prog 57 #[.agg #[.slice (some ⟨b,off,none⟩) len cap],.int .i64 p,IV n] w fun e w'=>e = .returned (.bool (fieldsB len f.d n))∧Below w.heap.size w w':=by
 have HC : Hid (Cell9 w b (off + p * 9) f):=hc
 have HO : Hid f.d.ok:=ok
 have HLY : Hid (LayAt w):=hl
 clear hc ok hl
 cases hin : inR n.op 1 42
 ·go_enter Tryz.func57,Tryz.ntmps57
  go_wp2_with (go_at_call 44; refine (wi_any _ _ _ _).mono ?_; rw [hin]; rintro e w' ⟨rfl,rfl⟩)
  go_ret
  exact ⟨ret_bo (by simp [fieldsB,hin]),bw2 _ _ _⟩
 have hop : 1 ≤ n.op∧n.op ≤ 42:=by simpa [inR] using hin
 obtain ⟨h0,h1⟩:=hop
 obtain ⟨k,hk⟩ : ∃ k : Nat,n.op = k:=⟨n.op.toNat,by omega⟩
 have hk0 : 1 ≤ k:=by omega
 have hk1 : k < 43:=by omega
 obtain ⟨q0,e0,l0,t0⟩:=lay_nat hk0 hk1 (j:=0) (by omega)
 obtain ⟨q1,e1,l1,t1⟩:=lay_nat hk0 hk1 (j:=1) (by omega)
 obtain ⟨q2,e2,l2,t2⟩:=lay_nat hk0 hk1 (j:=2) (by omega)
 obtain ⟨q3,e3,l3,t3⟩:=lay_nat hk0 hk1 (j:=3) (by omega)
 have T0 : Hid (lohi len f.d (conv q0) = lohi len f.d (rl n.op 0)):=by show lohi _ _ _ = _; rw [t0,hk]
 have T1 : Hid (lohi len f.d (conv q1) = lohi len f.d (rl n.op 1)):=by show lohi _ _ _ = _; rw [t1,hk]
 have T2 : Hid (lohi len f.d (conv q2) = lohi len f.d (rl n.op 2)):=by show lohi _ _ _ = _; rw [t2,hk]
 have T3 : Hid (lohi len f.d (conv q3) = lohi len f.d (rl n.op 3)):=by show lohi _ _ _ = _; rw [t3,hk]
 have HK : Hid (n.op = k):=hk
 clear t0 t1 t2 t3 hk
 go_enter Tryz.func57,Tryz.ntmps57
 go_wp2_with (go_at_call 44; refine (wi_any _ _ _ _).mono ?_; rw [hin]; rintro e w' ⟨rfl,rfl⟩)
 refine (fieldsof_any n k _ HK.out hk1 (HLY.out.later (bw2 _ _ _))).mono ?_
 simp only [F8,e0,e1,e2,e3]
 rintro e w1 ⟨rfl,hx⟩
 have B0 : Hid (w1.heap[w.heap.size]? = some (CO (.slice (some ⟨b,off,none⟩) len cap))):=blk_later hx (blk_old (blk_new _ _) _)
 have hB : Below w.heap.size w w1:=(bw2 _ _ _).trans (hx.mono (by simp; omega))
 clear hx e0 e1 e2 e3
 go_wp2_with fail
 go_loopw [17] (fun i wr=>∃ m : Nat,m ≤ 4∧i = .int .i64 m∧Below w.heap.size w wr∧Hid (wr.heap[w.heap.size]? = some (CO (.slice (some ⟨b,off,none⟩) len cap)))∧Hid (∀ j,j < m→fitsB len f.d (rl n.op j) (fv n j) = true)) (fun i _=>4 - (intOf i).toNat)
 case atStart=>exact ⟨0,by omega,rfl,hB,B0,fun j hj=>absurd hj (Nat.not_lt_zero _)⟩
 case round =>
  clear hB B0
  obtain ⟨m,hm,rfl,hB,B0,HF⟩:=hrel
  by_cases k1 : m < 4
  ·have hmc : m = 0 ∨ m = 1 ∨ m = 2 ∨ m = 3:=by omega
   rcases hmc with rfl | rfl | rfl | rfl
   ·have hy:=bw1 wr (.cells #[.int .i64 q0,.int .i64 n.a] 233)
    have a0 : (wr.alloc (.cells #[.int .i64 q0,.int .i64 n.a] 233)).cell? ⟨w.heap.size,0,none⟩ = some (.slice (some ⟨b,off,none⟩) len cap):=by rw [blk_cell (blk_later hy B0.out)]; rfl
    have hix:=idx4_0 (.int .i64 q0) (.int .i64 n.a) (.int .i64 q1) (.int .i64 n.b) (.int .i64 q2) (.int .i64 n.c) (.int .i64 q3) (.int .i64 n.d)
    have hBa:=hB.trans (hy.mono hB.size)
    have B0a : Hid _:=blk_later hy B0.out
    cases hfit : inR n.a (lohi len f.d (conv q0)).1 (lohi len f.d (conv q0)).2
    ·have HN : Hid (fieldsB len f.d n = false):=fields_not (j:=0) (by omega) (by rw [T0.out] at hfit; exact hfit)
     go_wp2_with fail
     refine (bounds_any q0 b off len cap p f _ l0 hpl hlen (HC.out.later hBa) hr0 hr1 HO.out).mono ?_
     rintro e w2 ⟨rfl,hx⟩
     have n1 : w2.cell? ⟨wr.heap.size,1,none⟩ = some (.int .i64 n.a):=by rw [blk_cell (blk_later hx (blk_new _ _))]; rfl
     replace hB:=hBa.trans (hx.mono hBa.size)
     clear hx a0
     go_wp2_with (go_at_call 44; refine (wi_any _ _ _ _).mono ?_; rw [hfit]; rintro e w' ⟨rfl,rfl⟩)
     go_ret
     exact ⟨ret_bo HN.out.symm,hB⟩
    ·have HF1 : Hid (∀ j,j < 0 + 1→fitsB len f.d (rl n.op j) (fv n j) = true):=by
      intro j hj
      by_cases hjm : j = 0
      ·subst hjm; rw [T0.out] at hfit; exact hfit
      ·exact HF.out j (by omega)
     clear HF
     go_wp2_with fail
     refine (bounds_any q0 b off len cap p f _ l0 hpl hlen (HC.out.later hBa) hr0 hr1 HO.out).mono ?_
     rintro e w2 ⟨rfl,hx⟩
     have n1 : w2.cell? ⟨wr.heap.size,1,none⟩ = some (.int .i64 n.a):=by rw [blk_cell (blk_later hx (blk_new _ _))]; rfl
     replace hB:=hBa.trans (hx.mono hBa.size)
     replace B0 : Hid _:=blk_later hx B0a.out
     clear hx a0
     go_wp2_with (go_at_call 44; refine (wi_any _ _ _ _).mono ?_; rw [hfit]; rintro e w' ⟨rfl,rfl⟩)
     go_roundw
     case rel=>exact ⟨0 + 1,by omega,by go_num,hB,B0,HF1⟩
     case measure=>simp [intOf]
   ·have hy:=bw1 wr (.cells #[.int .i64 q1,.int .i64 n.b] 233)
    have a0 : (wr.alloc (.cells #[.int .i64 q1,.int .i64 n.b] 233)).cell? ⟨w.heap.size,0,none⟩ = some (.slice (some ⟨b,off,none⟩) len cap):=by rw [blk_cell (blk_later hy B0.out)]; rfl
    have hix:=idx4_1 (.int .i64 q0) (.int .i64 n.a) (.int .i64 q1) (.int .i64 n.b) (.int .i64 q2) (.int .i64 n.c) (.int .i64 q3) (.int .i64 n.d)
    have hBa:=hB.trans (hy.mono hB.size)
    have B0a : Hid _:=blk_later hy B0.out
    cases hfit : inR n.b (lohi len f.d (conv q1)).1 (lohi len f.d (conv q1)).2
    ·have HN : Hid (fieldsB len f.d n = false):=fields_not (j:=1) (by omega) (by rw [T1.out] at hfit; exact hfit)
     go_wp2_with fail
     refine (bounds_any q1 b off len cap p f _ l1 hpl hlen (HC.out.later hBa) hr0 hr1 HO.out).mono ?_
     rintro e w2 ⟨rfl,hx⟩
     have n1 : w2.cell? ⟨wr.heap.size,1,none⟩ = some (.int .i64 n.b):=by rw [blk_cell (blk_later hx (blk_new _ _))]; rfl
     replace hB:=hBa.trans (hx.mono hBa.size)
     clear hx a0
     go_wp2_with (go_at_call 44; refine (wi_any _ _ _ _).mono ?_; rw [hfit]; rintro e w' ⟨rfl,rfl⟩)
     go_ret
     exact ⟨ret_bo HN.out.symm,hB⟩
    ·have HF1 : Hid (∀ j,j < 1 + 1→fitsB len f.d (rl n.op j) (fv n j) = true):=by
      intro j hj
      by_cases hjm : j = 1
      ·subst hjm; rw [T1.out] at hfit; exact hfit
      ·exact HF.out j (by omega)
     clear HF
     go_wp2_with fail
     refine (bounds_any q1 b off len cap p f _ l1 hpl hlen (HC.out.later hBa) hr0 hr1 HO.out).mono ?_
     rintro e w2 ⟨rfl,hx⟩
     have n1 : w2.cell? ⟨wr.heap.size,1,none⟩ = some (.int .i64 n.b):=by rw [blk_cell (blk_later hx (blk_new _ _))]; rfl
     replace hB:=hBa.trans (hx.mono hBa.size)
     replace B0 : Hid _:=blk_later hx B0a.out
     clear hx a0
     go_wp2_with (go_at_call 44; refine (wi_any _ _ _ _).mono ?_; rw [hfit]; rintro e w' ⟨rfl,rfl⟩)
     go_roundw
     case rel=>exact ⟨1 + 1,by omega,by go_num,hB,B0,HF1⟩
     case measure=>simp [intOf]
   ·have hy:=bw1 wr (.cells #[.int .i64 q2,.int .i64 n.c] 233)
    have a0 : (wr.alloc (.cells #[.int .i64 q2,.int .i64 n.c] 233)).cell? ⟨w.heap.size,0,none⟩ = some (.slice (some ⟨b,off,none⟩) len cap):=by rw [blk_cell (blk_later hy B0.out)]; rfl
    have hix:=idx4_2 (.int .i64 q0) (.int .i64 n.a) (.int .i64 q1) (.int .i64 n.b) (.int .i64 q2) (.int .i64 n.c) (.int .i64 q3) (.int .i64 n.d)
    have hBa:=hB.trans (hy.mono hB.size)
    have B0a : Hid _:=blk_later hy B0.out
    cases hfit : inR n.c (lohi len f.d (conv q2)).1 (lohi len f.d (conv q2)).2
    ·have HN : Hid (fieldsB len f.d n = false):=fields_not (j:=2) (by omega) (by rw [T2.out] at hfit; exact hfit)
     go_wp2_with fail
     refine (bounds_any q2 b off len cap p f _ l2 hpl hlen (HC.out.later hBa) hr0 hr1 HO.out).mono ?_
     rintro e w2 ⟨rfl,hx⟩
     have n1 : w2.cell? ⟨wr.heap.size,1,none⟩ = some (.int .i64 n.c):=by rw [blk_cell (blk_later hx (blk_new _ _))]; rfl
     replace hB:=hBa.trans (hx.mono hBa.size)
     clear hx a0
     go_wp2_with (go_at_call 44; refine (wi_any _ _ _ _).mono ?_; rw [hfit]; rintro e w' ⟨rfl,rfl⟩)
     go_ret
     exact ⟨ret_bo HN.out.symm,hB⟩
    ·have HF1 : Hid (∀ j,j < 2 + 1→fitsB len f.d (rl n.op j) (fv n j) = true):=by
      intro j hj
      by_cases hjm : j = 2
      ·subst hjm; rw [T2.out] at hfit; exact hfit
      ·exact HF.out j (by omega)
     clear HF
     go_wp2_with fail
     refine (bounds_any q2 b off len cap p f _ l2 hpl hlen (HC.out.later hBa) hr0 hr1 HO.out).mono ?_
     rintro e w2 ⟨rfl,hx⟩
     have n1 : w2.cell? ⟨wr.heap.size,1,none⟩ = some (.int .i64 n.c):=by rw [blk_cell (blk_later hx (blk_new _ _))]; rfl
     replace hB:=hBa.trans (hx.mono hBa.size)
     replace B0 : Hid _:=blk_later hx B0a.out
     clear hx a0
     go_wp2_with (go_at_call 44; refine (wi_any _ _ _ _).mono ?_; rw [hfit]; rintro e w' ⟨rfl,rfl⟩)
     go_roundw
     case rel=>exact ⟨2 + 1,by omega,by go_num,hB,B0,HF1⟩
     case measure=>simp [intOf]
   ·have hy:=bw1 wr (.cells #[.int .i64 q3,.int .i64 n.d] 233)
    have a0 : (wr.alloc (.cells #[.int .i64 q3,.int .i64 n.d] 233)).cell? ⟨w.heap.size,0,none⟩ = some (.slice (some ⟨b,off,none⟩) len cap):=by rw [blk_cell (blk_later hy B0.out)]; rfl
    have hix:=idx4_3 (.int .i64 q0) (.int .i64 n.a) (.int .i64 q1) (.int .i64 n.b) (.int .i64 q2) (.int .i64 n.c) (.int .i64 q3) (.int .i64 n.d)
    have hBa:=hB.trans (hy.mono hB.size)
    have B0a : Hid _:=blk_later hy B0.out
    cases hfit : inR n.d (lohi len f.d (conv q3)).1 (lohi len f.d (conv q3)).2
    ·have HN : Hid (fieldsB len f.d n = false):=fields_not (j:=3) (by omega) (by rw [T3.out] at hfit; exact hfit)
     go_wp2_with fail
     refine (bounds_any q3 b off len cap p f _ l3 hpl hlen (HC.out.later hBa) hr0 hr1 HO.out).mono ?_
     rintro e w2 ⟨rfl,hx⟩
     have n1 : w2.cell? ⟨wr.heap.size,1,none⟩ = some (.int .i64 n.d):=by rw [blk_cell (blk_later hx (blk_new _ _))]; rfl
     replace hB:=hBa.trans (hx.mono hBa.size)
     clear hx a0
     go_wp2_with (go_at_call 44; refine (wi_any _ _ _ _).mono ?_; rw [hfit]; rintro e w' ⟨rfl,rfl⟩)
     go_ret
     exact ⟨ret_bo HN.out.symm,hB⟩
    ·have HF1 : Hid (∀ j,j < 3 + 1→fitsB len f.d (rl n.op j) (fv n j) = true):=by
      intro j hj
      by_cases hjm : j = 3
      ·subst hjm; rw [T3.out] at hfit; exact hfit
      ·exact HF.out j (by omega)
     clear HF
     go_wp2_with fail
     refine (bounds_any q3 b off len cap p f _ l3 hpl hlen (HC.out.later hBa) hr0 hr1 HO.out).mono ?_
     rintro e w2 ⟨rfl,hx⟩
     have n1 : w2.cell? ⟨wr.heap.size,1,none⟩ = some (.int .i64 n.d):=by rw [blk_cell (blk_later hx (blk_new _ _))]; rfl
     replace hB:=hBa.trans (hx.mono hBa.size)
     replace B0 : Hid _:=blk_later hx B0a.out
     clear hx a0
     go_wp2_with (go_at_call 44; refine (wi_any _ _ _ _).mono ?_; rw [hfit]; rintro e w' ⟨rfl,rfl⟩)
     go_roundw
     case rel=>exact ⟨3 + 1,by omega,by go_num,hB,B0,HF1⟩
     case measure=>simp [intOf]
  ·have hm4 : m = 4:=by omega
   subst hm4
   have HR : Hid (fieldsB len f.d n = true):=fields_all h0 h1 HF.out
   clear HF
   go_wp2_with fail
   go_ret
   exact ⟨ret_bo HR.out.symm,hB⟩
def askedV (r : Nat) : List Int:=if r = 12 ∨ r = 14 then [1] else if r = 13 ∨ r = 16 then [3] else if r = 15 then [2] else if r = 17 then [1,1,1] else if r = 18 then [1,0] else if r = 19 then [1,1] else []
def givenV (r : Nat) : List Int:=if r = 20 then [1] else if r = 21 then [2] else if r = 22 then [3] else if r = 23 then [0] else if r = 18 then [1,1] else []
theorem sl_new (w : World) (ws : List Int) (b : Nat) (hb : w.heap[b]? = some (.cells (ws.map fun z=>Value.int .i64 z).toArray 3)) : SlA w 1 intC (some ⟨b,0,none⟩) ws:=by
 intro i x hx
 refine ⟨b,0,rfl,blk_lt hb,fun j v hv=>?_⟩
 have hj : j = 0:=by
  have:=(List.getElem?_eq_some_iff.1 hv).1
  simp [intC] at this
  omega
 subst hj
 simp [intC] at hv
 subst hv
 rw [blk_cell hb]
 simp [hx]
theorem sl_nil (w : World) : SlA w 1 intC none []:=fun i x hx=>by simp at hx
theorem asked_any (r : Nat) (w : World) (hr : r < 24) :
  Calls Tryz.prog 214 #[.int .i64 r] w fun e w'=>(∃ a c,e = .returned (.slice a (askedV r).length c)∧SlA w' 1 intC a (askedV r)∧(a = none ∨ a = some ⟨w.heap.size,0,none⟩))∧Below w.heap.size w w':=by
 have hcs:=r_cases hr
 clear hr
 rcases hcs with rfl | rfl | rfl | rfl | rfl | rfl | rfl | rfl | rfl | rfl | rfl | rfl | rfl | rfl | rfl | rfl | rfl | rfl | rfl | rfl | rfl | rfl | rfl | rfl
 all_goals
  go_enter Tryz.func214,Tryz.ntmps214
  go_wp2_with fail
  go_ret
  first
   | exact ⟨⟨none,0,rfl,sl_nil _,.inl rfl⟩,Below.refl _ _⟩
   | exact ⟨⟨some ⟨w.heap.size,0,none⟩,_,rfl,sl_new _ [1] _ (blk_new _ _),.inr rfl⟩,bw1 _ _⟩
   | exact ⟨⟨some ⟨w.heap.size,0,none⟩,_,rfl,sl_new _ [2] _ (blk_new _ _),.inr rfl⟩,bw1 _ _⟩
   | exact ⟨⟨some ⟨w.heap.size,0,none⟩,_,rfl,sl_new _ [3] _ (blk_new _ _),.inr rfl⟩,bw1 _ _⟩
   | exact ⟨⟨some ⟨w.heap.size,0,none⟩,_,rfl,sl_new _ [1,0] _ (blk_new _ _),.inr rfl⟩,bw1 _ _⟩
   | exact ⟨⟨some ⟨w.heap.size,0,none⟩,_,rfl,sl_new _ [1,1] _ (blk_new _ _),.inr rfl⟩,bw1 _ _⟩
   | exact ⟨⟨some ⟨w.heap.size,0,none⟩,_,rfl,sl_new _ [1,1,1] _ (blk_new _ _),.inr rfl⟩,bw1 _ _⟩
theorem given_any (r : Nat) (w : World) (hr : r < 24) :
  Calls Tryz.prog 150 #[.int .i64 r] w fun e w'=>(∃ a c,e = .returned (.slice a (givenV r).length c)∧SlA w' 1 intC a (givenV r)∧(a = none ∨ a = some ⟨w.heap.size,0,none⟩))∧Below w.heap.size w w':=by
 have hcs:=r_cases hr
 clear hr
 rcases hcs with rfl | rfl | rfl | rfl | rfl | rfl | rfl | rfl | rfl | rfl | rfl | rfl | rfl | rfl | rfl | rfl | rfl | rfl | rfl | rfl | rfl | rfl | rfl | rfl
 all_goals
  go_enter Tryz.func150,Tryz.ntmps150
  go_wp2_with fail
  go_ret
  first
   | exact ⟨⟨none,0,rfl,sl_nil _,.inl rfl⟩,Below.refl _ _⟩
   | exact ⟨⟨some ⟨w.heap.size,0,none⟩,_,rfl,sl_new _ [0] _ (blk_new _ _),.inr rfl⟩,bw1 _ _⟩
   | exact ⟨⟨some ⟨w.heap.size,0,none⟩,_,rfl,sl_new _ [1] _ (blk_new _ _),.inr rfl⟩,bw1 _ _⟩
   | exact ⟨⟨some ⟨w.heap.size,0,none⟩,_,rfl,sl_new _ [2] _ (blk_new _ _),.inr rfl⟩,bw1 _ _⟩
   | exact ⟨⟨some ⟨w.heap.size,0,none⟩,_,rfl,sl_new _ [3] _ (blk_new _ _),.inr rfl⟩,bw1 _ _⟩
   | exact ⟨⟨some ⟨w.heap.size,0,none⟩,_,rfl,sl_new _ [1,1] _ (blk_new _ _),.inr rfl⟩,bw1 _ _⟩
theorem Below.drewN {B : Nat} {w w' : World} (h : Below B w w') (n : Nat) : Below B w (w'.drewN n):=⟨h.os,h.tape,h.output,h.size,h.block⟩
theorem index_any (a : Option Addr) (len cap : Nat) (xs : List Int) (v : Int) (w : World) (hl : xs.length = len) (hp : SlA w 1 intC a xs) (hlen : len ≤ 1048576) :
  Calls Tryz.prog 310 #[.slice a len cap,.int .i64 v] w fun e w'=>(∃ z : Int,e = .returned (.int .i64 z)∧(0 ≤ z ↔ v ∈ xs))∧Below w.heap.size w w':=by
 have HP : Hid (SlA w 1 intC a xs):=hp
 have HL : Hid (xs.length = len):=hl
 clear hp hl
 go_enter Tryz.func310,Tryz.ntmps310
 go_wp2_with fail
 go_loopw [8] (fun i wr=>∃ m : Nat,m ≤ len∧i = .int .i64 m∧Below w.heap.size w wr∧Hid (∀ (j : Nat) z,j < m→xs[j]? = some z→z ≠ v)) (fun i _=>len - (intOf i).toNat)
 case atStart=>exact ⟨0,Nat.zero_le _,rfl,Below.refl _ _,fun j z hj=>by omega⟩
 case round =>
  obtain ⟨m,hm,rfl,hB,HF⟩:=hrel
  by_cases k1 : m < len
  ·obtain ⟨x,hx⟩ : ∃ x,xs[m]? = some x:=⟨xs[m]'(by rw [HL.out]; exact k1),by simp⟩
   obtain ⟨b,off,rfl,hbl,hc⟩:=HP.out m x hx
   have c0 : wr.cell? ⟨b,off + m,none⟩ = some (.int .i64 x):=by have h:=cell_later hB (hc 0 _ rfl); simpa using h
   have HX : Hid (xs[m]? = some x):=hx
   clear hx hc
   by_cases hv : v = x
   ·have t : (v == x) = true:=by simpa using hv
    go_wp2_with fail
    go_ret
    exact ⟨⟨(m : Int),rfl,⟨fun _=>by rw [hv]; exact List.mem_of_getElem? HX.out,fun _=>by omega⟩⟩,hB⟩
   ·have t : (v == x) = false:=by simpa using hv
    go_wp2_with fail
    go_roundw
    case rel=>exact ⟨m + 1,by omega,by go_num,hB,fun j z hj hz=>by
     by_cases e : j = m
     ·subst e; rw [HX.out] at hz; cases hz; exact fun e=>hv e.symm
     ·exact HF.out j z (by omega) hz⟩
    case measure=>simp [intOf]; omega
  ·go_wp2_with fail
   go_ret
   refine ⟨⟨-1,rfl,⟨fun h=>by omega,fun h=>?_⟩⟩,hB⟩
   obtain ⟨j,hj⟩:=List.getElem?_of_mem h
   exact absurd rfl (HF.out j v (by have:=(List.getElem?_eq_some_iff.1 hj).1; have:=HL.out; omega) hj)
theorem contains_any (a : Option Addr) (len cap : Nat) (xs : List Int) (v : Int) (w : World) (hl : xs.length = len) (hp : SlA w 1 intC a xs) (hlen : len ≤ 1048576) :
  Calls Tryz.prog 266 #[.slice a len cap,.int .i64 v] w fun e w'=>e = .returned (.bool (decide (v ∈ xs)))∧Below w.heap.size w w':=by
 go_enter Tryz.func266,Tryz.ntmps266
 go_wp2_with fail
 refine (index_any a len cap xs v _ hl hp hlen).mono ?_
 rintro e w' ⟨⟨z,rfl,hz⟩,hb⟩
 have HZ : Hid (0 ≤ z ↔ v ∈ xs):=hz
 clear hz
 go_wp2_with fail
 go_ret
 refine ⟨ret_bo ?_,hb⟩
 rw [decide_eq_decide]
 first | exact HZ.out | (rw [ge_iff_le]; exact HZ.out)
end Go.Proofs.YtjglgbepobmjhaaGreatDoor
