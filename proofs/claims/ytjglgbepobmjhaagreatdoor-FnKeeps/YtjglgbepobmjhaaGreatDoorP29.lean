import Derived.Test.YtjglgbepobmjhaaGreatDoorP28
set_option linter.unusedVariables false
set_option linter.unusedSimpArgs false
set_option maxRecDepth 20000
set_option maxHeartbeats 8000000
namespace Go.Proofs.YtjglgbepobmjhaaGreatDoor
open Go.RowKit
theorem sil_any (n:ID) (t nI regs:Nat) (w:World) (hn:InsOk regs nI n) (hla:LayAt w) (ht:t≤6000) :
  Calls Tryz.prog 155 #[IV n,.int .i64 t] w fun e w'=>SlR w (silentV n t) e w':=by
 have h0:=hn.op1
 have h1:=hn.op2
 have ha:=hn.ta
 have hb:=hn.tb
 obtain⟨op,na,nb,nc,nd⟩:=n
 dsimp only at h0 h1 ha hb
 have f:∀k:Int,op≠k→(op == k)=false:=fun k h=>by simpa using h
 by_cases c1:op=1
 ·subst c1;exact psil_1 na nb nc nd t w hla h0 h1 ht
 by_cases c3:op=3
 ·subst c3;exact psil_3 na nb nc nd t w hla h0 h1 ht
 by_cases c28:op=28
 ·subst c28;exact psil_28 na nb nc nd t w hla h0 h1 ht
 by_cases c29:op=29
 ·subst c29;exact psil_29 na nb nc nd t w hla h0 h1 ht
 by_cases c30:op=30
 ·subst c30;exact psil_30 na nb nc nd t w hla h0 h1 ht
 by_cases c19:op=19
 ·subst c19
  obtain⟨m,rfl⟩:∃m:Nat,na=m:=⟨na.toNat,by have:=(ha (.inl rfl)).1;omega⟩
  exact psil_19 nb nc nd m t w hla h0 h1 ht
 by_cases c41:op=41
 ·subst c41
  obtain⟨m,rfl⟩:∃m:Nat,nb=m:=⟨nb.toNat,by have:=(hb (by omega)).1;omega⟩
  exact psil_41 na nc nd m t w hla h0 h1 ht
 by_cases c31:op=31
 ·subst c31
  obtain⟨m,rfl⟩:∃m:Nat,na=m:=⟨na.toNat,by have:=(ha (.inr rfl)).1;omega⟩
  exact psil_31 nb nc nd m t w hla h0 h1 ht
 by_cases c20:op=20
 ·subst c20
  obtain⟨m,rfl⟩:∃m:Nat,nb=m:=⟨nb.toNat,by have:=(hb (by omega)).1;omega⟩
  exact psil_20 na nc nd m t w hla h0 h1 ht
 by_cases c21:op=21
 ·subst c21
  obtain⟨m,rfl⟩:∃m:Nat,nb=m:=⟨nb.toNat,by have:=(hb (by omega)).1;omega⟩
  exact psil_21 na nc nd m t w hla h0 h1 ht
 by_cases c38:op=38
 ·subst c38
  obtain⟨m,rfl⟩:∃m:Nat,nb=m:=⟨nb.toNat,by have:=(hb (by omega)).1;omega⟩
  exact psil_38 na nc nd m t w hla h0 h1 ht
 by_cases c39:op=39
 ·subst c39
  obtain⟨m,rfl⟩:∃m:Nat,nb=m:=⟨nb.toNat,by have:=(hb (by omega)).1;omega⟩
  exact psil_39 na nc nd m t w hla h0 h1 ht
 by_cases c18:op=18
 ·subst c18
  by_cases c12:nb=12
  ·subst c12;exact psil_18 na nc nd t w hla h0 h1 ht
  ·have e:silentV ⟨18,na,nb,nc,nd⟩ t=[t+1]:=by simp[silentV,goesV,endsB,targetV,c12]
   rw[e]
   exact psil_j na nb nc nd t w hla h0 h1 ht (by simpa using c12)
 have hen:endsB op=false:=by simp[endsB,c19,c29,c30]
 have e:silentV ⟨op,na,nb,nc,nd⟩ t=[t+1]:=by
  unfold silentV targetV goesV
  dsimp only
  rw[if_neg (c:=op=19∨op=31) (by omega),if_neg (c:=op=20∨op=21∨op=38∨op=39∨op=41) (by omega)]
  simp[hen,c1,c3,c28,c41,c18]
 rw[e]
 exact psil_s op na nb nc nd t w hla h0 h1 ht (f _ c1) (f _ c3) (f _ c28) (f _ c18) (by simpa using c41) hen (by omega)
end Go.Proofs.YtjglgbepobmjhaaGreatDoor
