import Derived.Test.YtjglgbepobmjhaaGreatDoorP17
import Derived.Test.YtjglgbepobmjhaaGreatDoorP18
import Derived.Test.YtjglgbepobmjhaaGreatDoorP08
import Derived.Test.YtjglgbepobmjhaaGreatDoorP25
set_option linter.unusedVariables false
set_option linter.unusedSimpArgs false
set_option maxRecDepth 20000
set_option maxHeartbeats 8000000
namespace Go.Proofs.YtjglgbepobmjhaaGreatDoor
open Go.RowKit
theorem run_any (W0:World) (aC:Option Addr) (cap:Nat) (xs:List FC) (p nR nI nP gW gS k0:Nat) (f:FC) (E:Nat→List Nat) (cv iv:Value) (w:World) (R:Except (Nat × Nat) WkS) (C:WCx W0 aC cap xs p nR nI nP f E cv iv) (h:WlV W0.heap.size gW gS nI p cv iv w (List.replicate nI sr0) (.slice none 0 0) (List.replicate nI false)) (hB:Below W0.heap.size W0 w) (hR:Runs (xs.map FC.d) f.d.ins k0 (startS f.d) R) (hlr:∀(wr:World) (zs:List SR) (hv:Value) (due:List Bool),WlV W0.heap.size gW gS nI p cv iv wr zs hv due→Below W0.heap.size W0 wr→(∀(a:Nat) n,f.d.ins[a]?=some n→(∃x,(zs.map SR.o)[a]?=some (some x))→∀t∈silentV n a,∃y,(zs.map SR.o)[t]?=some (some y))→Calls Tryz.prog 38 #[.pointer (some ⟨gW,0,none⟩)] wr fun e w'=>∃z,e=.returned (.int .i64 (lsI z))∧LrP (zs.map SR.o) f.d z∧Below wr.heap.size wr w') :
  Calls Tryz.prog 21 #[.pointer (some ⟨gW,0,none⟩)] w fun e w'=>RnA W0.heap.size gW gS nI p cv iv R f.d e w'∧ButL [gW,gS] w w':=by
 obtain⟨c0,c1,c2,c3,c4⟩:=h.cells
 obtain⟨bP,oP,ePa,hPl,hPc⟩:=C.code.row p f C.at_
 have hq:∀j v,f.cells[j]?=some v→w.cell? ⟨bP,oP+p*9+j,none⟩=some v:=fun j v hv=>cell_later hB (hPc j v hv)
 have p0:w.cell? ⟨bP,oP+p*9,none⟩=some (.string f.d.name):=hq 0 _ rfl
 have p1:=hq 1 _ rfl
 have p2:=hq 2 _ rfl
 have p3:=hq 3 _ rfl
 have p4:=hq 4 _ rfl
 have p5:=hq 5 _ rfl
 have p6:=hq 6 _ rfl
 have p7:=hq 7 _ rfl
 have p8:=hq 8 _ rfl
 rw[C.ecv,ePa]at c0
 have hpx:p<xs.length:=(List.getElem?_eq_some_iff.1 C.at_).1
 have hxl:=C.code.len
 have HPR:Hid (PrOk xs f.d nR nI nP E):=C.ok
 have HW:Hid (WlV W0.heap.size gW gS nI p cv iv w (List.replicate nI sr0) (.slice none 0 0) (List.replicate nI false)):=h
 have HB:Hid (Below W0.heap.size W0 w):=hB
 have HC:Hid (WCx W0 aC cap xs p nR nI nP f E cv iv):=C
 have HLR:Hid (∀(wr:World) (zs:List SR) (hv:Value) (due:List Bool),WlV W0.heap.size gW gS nI p cv iv wr zs hv due→Below W0.heap.size W0 wr→(∀(a:Nat) n,f.d.ins[a]?=some n→(∃x,(zs.map SR.o)[a]?=some (some x))→∀t∈silentV n a,∃y,(zs.map SR.o)[t]?=some (some y))→Calls Tryz.prog 38 #[.pointer (some ⟨gW,0,none⟩)] wr fun e w'=>∃z,e=.returned (.int .i64 (lsI z))∧LrP (zs.map SR.o) f.d z∧Below wr.heap.size wr w'):=hlr
 clear hlr
 have HR:Hid (Runs (xs.map FC.d) f.d.ins k0 (startS f.d) R):=hR
 have hreg:f.d.regs.toNat=nR:=by rw[C.ok.regs];rfl
 have hpar:f.d.params.toNat=nP:=by rw[C.ok.par];rfl
 have HST:Hid (reachW ⟨(List.replicate nI sr0).map SR.o,List.replicate nI false⟩ 0 ⟨startT nP nR f.d.rest,[]⟩=some (startS f.d)):=by
  have h9:=start_states f.d nI C.ok.ins C.ok.ins0
  rw[hreg,hpar]at h9
  exact h9
 have HSO:Hid (SOk nR ⟨startT nP nR f.d.rest,[]⟩):=⟨startT_len _ _ _ (by have:=C.ok.par1;split at this<;>omega),by simp,fun g hg=>by cases hg⟩
 have HOK0:Hid (WOk nR nI ⟨(List.replicate nI sr0).map SR.o,List.replicate nI false⟩):=by
  refine⟨by simp,by simp,fun a x hx=>?_,fun a ha=>?_⟩
  ·simp only[List.getElem?_map,List.getElem?_replicate]at hx
   split at hx<;>simp[sr0]at hx
  ·simp only[List.getElem?_replicate]at ha
   split at ha<;>simp at ha
 have HOK1:Hid (WOk nR nI (startS f.d)):=reachW_ok HOK0.out HSO.out HST.out
 clear h hB C hR hPc hq ePa hPl c2 c3 c4 hreg hpar
 go_enter Tryz.func21,Tryz.ntmps21
 go_wp2_with fail
 go_cut [3] from 6 to 19 (fun s3 wx=>s3=.nilIface∧∃zs1 hv1,WlV W0.heap.size gW gS nI p cv iv wx zs1 hv1 (startS f.d).due∧zs1.map SR.o=(startS f.d).st∧(∀g,hv1.ownBlock=some g→w.heap.size≤g)∧ButL [gW,gS] w wx)
 case first =>
  refine wp_region_inv (by kernel_rfl) (fun base listed a' w'=>∃b0 b1 b2 b3 b4 b5 b6 b7 b8 b9 b10 b11 b12 b13 b14 x0' x1' x2' x3' x4' x5' x6' x7' x8' x9' x10' x11' x12' x13' x14',listed=#[b0,b1,b2,b3,b4,b5,b6,b7,b8,b9,b10,b11,b12,b13,b14]∧a'=(((((((((((((((base.put (some 6) x0').put (some 7) x1').put (some 8) x2').put (some 9) x3').put (some 10) x4').put (some 11) x5').put (some 12) x6').put (some 13) x7').put (some 14) x8').put (some 15) x9').put (some 16) x10').put (some 17) x11').put (some 18) x12').put (some 19) x13').put (some 3) x14')∧Hid ((b13=false→Below w.heap.size w w'∧(b12=true→∃aK lK cK,x12'=.agg #[.bool false,.slice aK lK cK,.slice none 0 0]∧OI w' w.heap.size (.slice aK lK cK) (startT nP nR f.d.rest)))∧(b13=true→∃zs1 hv1,WlV W0.heap.size gW gS nI p cv iv w' zs1 hv1 (startS f.d).due∧zs1.map SR.o=(startS f.d).st∧(∀g,hv1.ownBlock=some g→w.heap.size≤g)∧ButL [gW,gS] w w'))∧Hid (b0=true→x0'=.pointer (some ⟨gW,0,none⟩))∧Hid (b1=true→x1'=.pointer (some ⟨gW,0,none⟩))∧Hid (b2=true→x2'=.pointer (some ⟨gW,0,none⟩))∧Hid (b3=true→x3'=.pointer (some ⟨gW,0,none⟩))∧Hid (b4=true→x4'=.pointer (some ⟨gW,0,none⟩))∧Hid (b5=true→x5'=.slice (some ⟨bP,oP,none⟩) xs.length cap)∧Hid (b6=true→x6'=.pointer (some ⟨gW,0,none⟩))∧Hid (b7=true→x7'=.pointer (some ⟨gW,0,none⟩))∧Hid (b8=true→x8'=.pointer (some ⟨gW,1,none⟩))∧Hid (b9=true→x9'=.int .i64 (p:Int))∧Hid (b10=true→x10'=.pointer (some ⟨bP,oP+p*9,none⟩))∧Hid (b11=true→x11'=PV f)∧Hid (b13=true→x13'=.nilIface)∧Hid (b14=true→x14'=.nilIface)∧Hid (b2=true→b1=true)∧Hid (b3=true→b2=true)∧Hid (b4=true→b3=true)∧Hid (b5=true→b4=true)∧Hid (b7=true→b6=true)∧Hid (b8=true→b7=true)∧Hid (b9=true→b8=true)∧Hid (b10=true→b5=true)∧Hid (b10=true→b9=true)∧Hid (b11=true→b10=true)∧Hid (b12=true→b11=true)∧Hid (b13=true→b0=true)∧Hid (b13=true→b12=true)∧Hid (b14=true→b13=true)) ?_ ?_ ?_
  ·exact⟨false,false,false,false,false,false,false,false,false,false,false,false,false,false,false,undef,undef,undef,undef,undef,undef,undef,undef,undef,undef,undef,undef,undef,undef,undef,rfl,by kernel_rfl,⟨fun _=>⟨(Below.refl _ _).drew,nofun⟩,nofun⟩,nofun,nofun,nofun,nofun,nofun,nofun,nofun,nofun,nofun,nofun,nofun,nofun,nofun,nofun,nofun,nofun,nofun,nofun,nofun,nofun,nofun,nofun,nofun,nofun,nofun,nofun,nofun,nofun⟩
  ·rintro i listed a' w' ⟨b0,b1,b2,b3,b4,b5,b6,b7,b8,b9,b10,b11,b12,b13,b14,x0',x1',x2',x3',x4',x5',x6',x7',x8',x9',x10',x11',x12',x13',x14',rfl,rfl,hPW,f0,f1,f2,f3,f4,f5,f6,f7,f8,f9,f10,f11,f13,f14,c2_1,c3_2,c4_3,c5_4,c7_6,c8_7,c9_8,c10_5,c10_9,c11_10,c12_11,c13_0,c13_12,c14_13⟩ hr
   have hi:=ready_lt hr
   have hun:=(mem_ready.1 hr).1
   simp only[List.size_toArray,List.length_cons,List.length_nil,Nat.zero_add,Nat.reduceAdd]at hi
   have hi':i=0∨i=1∨i=2∨i=3∨i=4∨i=5∨i=6∨i=7∨i=8∨i=9∨i=10∨i=11∨i=12∨i=13∨i=14:=by omega
   clear hi
   rcases hi' with rfl | rfl | rfl | rfl | rfl | rfl | rfl | rfl | rfl | rfl | rfl | rfl | rfl | rfl | rfl
   ·have hbi:b0=false:=by simpa using hun
    subst hbi  
    clear hr hun
    refine wpOp_step rfl (fun K hK=>?_)
    go_simp
    exact hK _ _ ⟨true,b1,b2,b3,b4,b5,b6,b7,b8,b9,b10,b11,b12,b13,b14,(.pointer (some ⟨gW,0,none⟩)),x1',x2',x3',x4',x5',x6',x7',x8',x9',x10',x11',x12',x13',x14',rfl,by kernel_rfl,hPW,fun _=>rfl,f1,f2,f3,f4,f5,f6,f7,f8,f9,f10,f11,f13,f14,c2_1,c3_2,c4_3,c5_4,c7_6,c8_7,c9_8,c10_5,c10_9,c11_10,c12_11,fun _=>rfl,c13_12,c14_13⟩
   ·have hbi:b1=false:=by simpa using hun
    have n12:b12=false:=by
     cases hg:b12 with
     | false=>rfl
     | true=>have g:b12=true:=hg;have h9:=(c2_1.out (c3_2.out (c4_3.out (c5_4.out (c10_5.out (c11_10.out (c12_11.out g)))))));rw[hbi]at h9;cases h9
    have n13:b13=false:=by
     cases hg:b13 with
     | false=>rfl
     | true=>have g:b13=true:=hg;have h9:=(c2_1.out (c3_2.out (c4_3.out (c5_4.out (c10_5.out (c11_10.out (c12_11.out (c13_12.out g))))))));rw[hbi]at h9;cases h9
    subst hbi  n12 n13
    clear hr hun
    refine wpOp_step rfl (fun K hK=>?_)
    go_simp
    exact hK _ _ ⟨b0,true,b2,b3,b4,b5,b6,b7,b8,b9,b10,b11,false,false,b14,x0',(.pointer (some ⟨gW,0,none⟩)),x2',x3',x4',x5',x6',x7',x8',x9',x10',x11',x12',x13',x14',rfl,by kernel_rfl,⟨fun _=>⟨(hPW.out.1 rfl).1,nofun⟩,nofun⟩,f0,fun _=>rfl,f2,f3,f4,f5,f6,f7,f8,f9,f10,f11,nofun,f14,fun _=>rfl,c3_2,c4_3,c5_4,c7_6,c8_7,c9_8,c10_5,c10_9,c11_10,nofun,nofun,nofun,c14_13⟩
   ·have hbi:b2=false:=by simpa using hun
    have e1:b1=true:=by simpa using ready_dep hr rfl ⟨1,.data⟩ (by simp) rfl
    have n12:b12=false:=by
     cases hg:b12 with
     | false=>rfl
     | true=>have g:b12=true:=hg;have h9:=(c3_2.out (c4_3.out (c5_4.out (c10_5.out (c11_10.out (c12_11.out g))))));rw[hbi]at h9;cases h9
    have n13:b13=false:=by
     cases hg:b13 with
     | false=>rfl
     | true=>have g:b13=true:=hg;have h9:=(c3_2.out (c4_3.out (c5_4.out (c10_5.out (c11_10.out (c12_11.out (c13_12.out g)))))));rw[hbi]at h9;cases h9
    subst hbi e1 n12 n13
    clear hr hun
    obtain rfl:=f1.out rfl
    refine wpOp_step rfl (fun K hK=>?_)
    go_simp
    exact hK _ _ ⟨b0,true,true,b3,b4,b5,b6,b7,b8,b9,b10,b11,false,false,b14,x0',(.pointer (some ⟨gW,0,none⟩)),(.pointer (some ⟨gW,0,none⟩)),x3',x4',x5',x6',x7',x8',x9',x10',x11',x12',x13',x14',rfl,by kernel_rfl,⟨fun _=>⟨(hPW.out.1 rfl).1,nofun⟩,nofun⟩,f0,fun _=>rfl,fun _=>rfl,f3,f4,f5,f6,f7,f8,f9,f10,f11,nofun,f14,fun _=>rfl,fun _=>rfl,c4_3,c5_4,c7_6,c8_7,c9_8,c10_5,c10_9,c11_10,nofun,nofun,nofun,c14_13⟩
   ·have hbi:b3=false:=by simpa using hun
    have e2:b2=true:=by simpa using ready_dep hr rfl ⟨2,.data⟩ (by simp) rfl
    have n12:b12=false:=by
     cases hg:b12 with
     | false=>rfl
     | true=>have g:b12=true:=hg;have h9:=(c4_3.out (c5_4.out (c10_5.out (c11_10.out (c12_11.out g)))));rw[hbi]at h9;cases h9
    have n13:b13=false:=by
     cases hg:b13 with
     | false=>rfl
     | true=>have g:b13=true:=hg;have h9:=(c4_3.out (c5_4.out (c10_5.out (c11_10.out (c12_11.out (c13_12.out g))))));rw[hbi]at h9;cases h9
    subst hbi e2 n12 n13
    clear hr hun
    obtain rfl:=f2.out rfl
    refine wpOp_step rfl (fun K hK=>?_)
    go_simp
    exact hK _ _ ⟨b0,b1,true,true,b4,b5,b6,b7,b8,b9,b10,b11,false,false,b14,x0',x1',(.pointer (some ⟨gW,0,none⟩)),(.pointer (some ⟨gW,0,none⟩)),x4',x5',x6',x7',x8',x9',x10',x11',x12',x13',x14',rfl,by kernel_rfl,⟨fun _=>⟨(hPW.out.1 rfl).1,nofun⟩,nofun⟩,f0,f1,fun _=>rfl,fun _=>rfl,f4,f5,f6,f7,f8,f9,f10,f11,nofun,f14,c2_1,fun _=>rfl,fun _=>rfl,c5_4,c7_6,c8_7,c9_8,c10_5,c10_9,c11_10,nofun,nofun,nofun,c14_13⟩
   ·have hbi:b4=false:=by simpa using hun
    have e3:b3=true:=by simpa using ready_dep hr rfl ⟨3,.data⟩ (by simp) rfl
    have n12:b12=false:=by
     cases hg:b12 with
     | false=>rfl
     | true=>have g:b12=true:=hg;have h9:=(c5_4.out (c10_5.out (c11_10.out (c12_11.out g))));rw[hbi]at h9;cases h9
    have n13:b13=false:=by
     cases hg:b13 with
     | false=>rfl
     | true=>have g:b13=true:=hg;have h9:=(c5_4.out (c10_5.out (c11_10.out (c12_11.out (c13_12.out g)))));rw[hbi]at h9;cases h9
    subst hbi e3 n12 n13
    clear hr hun
    obtain rfl:=f3.out rfl
    refine wpOp_step rfl (fun K hK=>?_)
    go_simp
    exact hK _ _ ⟨b0,b1,b2,true,true,b5,b6,b7,b8,b9,b10,b11,false,false,b14,x0',x1',x2',(.pointer (some ⟨gW,0,none⟩)),(.pointer (some ⟨gW,0,none⟩)),x5',x6',x7',x8',x9',x10',x11',x12',x13',x14',rfl,by kernel_rfl,⟨fun _=>⟨(hPW.out.1 rfl).1,nofun⟩,nofun⟩,f0,f1,f2,fun _=>rfl,fun _=>rfl,f5,f6,f7,f8,f9,f10,f11,nofun,f14,c2_1,c3_2,fun _=>rfl,fun _=>rfl,c7_6,c8_7,c9_8,c10_5,c10_9,c11_10,nofun,nofun,nofun,c14_13⟩
   ·have hbi:b5=false:=by simpa using hun
    have e4:b4=true:=by simpa using ready_dep hr rfl ⟨4,.data⟩ (by simp) rfl
    have n12:b12=false:=by
     cases hg:b12 with
     | false=>rfl
     | true=>have g:b12=true:=hg;have h9:=(c10_5.out (c11_10.out (c12_11.out g)));rw[hbi]at h9;cases h9
    have n13:b13=false:=by
     cases hg:b13 with
     | false=>rfl
     | true=>have g:b13=true:=hg;have h9:=(c10_5.out (c11_10.out (c12_11.out (c13_12.out g))));rw[hbi]at h9;cases h9
    subst hbi e4 n12 n13
    clear hr hun
    obtain rfl:=f4.out rfl
    have hPB:=(hPW.out.1 rfl).1
    have cx:=cell_later hPB c0
    refine wpOp_step rfl (fun K hK=>?_)
    go_simp
    exact hK _ _ ⟨b0,b1,b2,b3,true,true,b6,b7,b8,b9,b10,b11,false,false,b14,x0',x1',x2',x3',(.pointer (some ⟨gW,0,none⟩)),(.slice (some ⟨bP,oP,none⟩) xs.length cap),x6',x7',x8',x9',x10',x11',x12',x13',x14',rfl,by kernel_rfl,⟨fun _=>⟨(hPW.out.1 rfl).1,nofun⟩,nofun⟩,f0,f1,f2,f3,fun _=>rfl,fun _=>rfl,f6,f7,f8,f9,f10,f11,nofun,f14,c2_1,c3_2,c4_3,fun _=>rfl,c7_6,c8_7,c9_8,fun _=>rfl,c10_9,c11_10,nofun,nofun,nofun,c14_13⟩
   ·have hbi:b6=false:=by simpa using hun
    have n12:b12=false:=by
     cases hg:b12 with
     | false=>rfl
     | true=>have g:b12=true:=hg;have h9:=(c7_6.out (c8_7.out (c9_8.out (c10_9.out (c11_10.out (c12_11.out g))))));rw[hbi]at h9;cases h9
    have n13:b13=false:=by
     cases hg:b13 with
     | false=>rfl
     | true=>have g:b13=true:=hg;have h9:=(c7_6.out (c8_7.out (c9_8.out (c10_9.out (c11_10.out (c12_11.out (c13_12.out g)))))));rw[hbi]at h9;cases h9
    subst hbi  n12 n13
    clear hr hun
    refine wpOp_step rfl (fun K hK=>?_)
    go_simp
    exact hK _ _ ⟨b0,b1,b2,b3,b4,b5,true,b7,b8,b9,b10,b11,false,false,b14,x0',x1',x2',x3',x4',x5',(.pointer (some ⟨gW,0,none⟩)),x7',x8',x9',x10',x11',x12',x13',x14',rfl,by kernel_rfl,⟨fun _=>⟨(hPW.out.1 rfl).1,nofun⟩,nofun⟩,f0,f1,f2,f3,f4,f5,fun _=>rfl,f7,f8,f9,f10,f11,nofun,f14,c2_1,c3_2,c4_3,c5_4,fun _=>rfl,c8_7,c9_8,c10_5,c10_9,c11_10,nofun,nofun,nofun,c14_13⟩
   ·have hbi:b7=false:=by simpa using hun
    have e6:b6=true:=by simpa using ready_dep hr rfl ⟨6,.data⟩ (by simp) rfl
    have n12:b12=false:=by
     cases hg:b12 with
     | false=>rfl
     | true=>have g:b12=true:=hg;have h9:=(c8_7.out (c9_8.out (c10_9.out (c11_10.out (c12_11.out g)))));rw[hbi]at h9;cases h9
    have n13:b13=false:=by
     cases hg:b13 with
     | false=>rfl
     | true=>have g:b13=true:=hg;have h9:=(c8_7.out (c9_8.out (c10_9.out (c11_10.out (c12_11.out (c13_12.out g))))));rw[hbi]at h9;cases h9
    subst hbi e6 n12 n13
    clear hr hun
    obtain rfl:=f6.out rfl
    refine wpOp_step rfl (fun K hK=>?_)
    go_simp
    exact hK _ _ ⟨b0,b1,b2,b3,b4,b5,true,true,b8,b9,b10,b11,false,false,b14,x0',x1',x2',x3',x4',x5',(.pointer (some ⟨gW,0,none⟩)),(.pointer (some ⟨gW,0,none⟩)),x8',x9',x10',x11',x12',x13',x14',rfl,by kernel_rfl,⟨fun _=>⟨(hPW.out.1 rfl).1,nofun⟩,nofun⟩,f0,f1,f2,f3,f4,f5,fun _=>rfl,fun _=>rfl,f8,f9,f10,f11,nofun,f14,c2_1,c3_2,c4_3,c5_4,fun _=>rfl,fun _=>rfl,c9_8,c10_5,c10_9,c11_10,nofun,nofun,nofun,c14_13⟩
   ·have hbi:b8=false:=by simpa using hun
    have e7:b7=true:=by simpa using ready_dep hr rfl ⟨7,.data⟩ (by simp) rfl
    have n12:b12=false:=by
     cases hg:b12 with
     | false=>rfl
     | true=>have g:b12=true:=hg;have h9:=(c9_8.out (c10_9.out (c11_10.out (c12_11.out g))));rw[hbi]at h9;cases h9
    have n13:b13=false:=by
     cases hg:b13 with
     | false=>rfl
     | true=>have g:b13=true:=hg;have h9:=(c9_8.out (c10_9.out (c11_10.out (c12_11.out (c13_12.out g)))));rw[hbi]at h9;cases h9
    subst hbi e7 n12 n13
    clear hr hun
    obtain rfl:=f7.out rfl
    refine wpOp_step rfl (fun K hK=>?_)
    go_simp
    exact hK _ _ ⟨b0,b1,b2,b3,b4,b5,b6,true,true,b9,b10,b11,false,false,b14,x0',x1',x2',x3',x4',x5',x6',(.pointer (some ⟨gW,0,none⟩)),(.pointer (some ⟨gW,1,none⟩)),x9',x10',x11',x12',x13',x14',rfl,by kernel_rfl,⟨fun _=>⟨(hPW.out.1 rfl).1,nofun⟩,nofun⟩,f0,f1,f2,f3,f4,f5,f6,fun _=>rfl,fun _=>rfl,f9,f10,f11,nofun,f14,c2_1,c3_2,c4_3,c5_4,c7_6,fun _=>rfl,fun _=>rfl,c10_5,c10_9,c11_10,nofun,nofun,nofun,c14_13⟩
   ·have hbi:b9=false:=by simpa using hun
    have e8:b8=true:=by simpa using ready_dep hr rfl ⟨8,.data⟩ (by simp) rfl
    have n12:b12=false:=by
     cases hg:b12 with
     | false=>rfl
     | true=>have g:b12=true:=hg;have h9:=(c10_9.out (c11_10.out (c12_11.out g)));rw[hbi]at h9;cases h9
    have n13:b13=false:=by
     cases hg:b13 with
     | false=>rfl
     | true=>have g:b13=true:=hg;have h9:=(c10_9.out (c11_10.out (c12_11.out (c13_12.out g))));rw[hbi]at h9;cases h9
    subst hbi e8 n12 n13
    clear hr hun
    obtain rfl:=f8.out rfl
    have hPB:=(hPW.out.1 rfl).1
    have cx:=cell_later hPB c1
    refine wpOp_step rfl (fun K hK=>?_)
    go_simp
    exact hK _ _ ⟨b0,b1,b2,b3,b4,b5,b6,b7,true,true,b10,b11,false,false,b14,x0',x1',x2',x3',x4',x5',x6',x7',(.pointer (some ⟨gW,1,none⟩)),(.int .i64 (p:Int)),x10',x11',x12',x13',x14',rfl,by kernel_rfl,⟨fun _=>⟨(hPW.out.1 rfl).1,nofun⟩,nofun⟩,f0,f1,f2,f3,f4,f5,f6,f7,fun _=>rfl,fun _=>rfl,f10,f11,nofun,f14,c2_1,c3_2,c4_3,c5_4,c7_6,c8_7,fun _=>rfl,c10_5,fun _=>rfl,c11_10,nofun,nofun,nofun,c14_13⟩
   ·have hbi:b10=false:=by simpa using hun
    have e5:b5=true:=by simpa using ready_dep hr rfl ⟨5,.data⟩ (by simp) rfl
    have e9:b9=true:=by simpa using ready_dep hr rfl ⟨9,.data⟩ (by simp) rfl
    have n12:b12=false:=by
     cases hg:b12 with
     | false=>rfl
     | true=>have g:b12=true:=hg;have h9:=(c11_10.out (c12_11.out g));rw[hbi]at h9;cases h9
    have n13:b13=false:=by
     cases hg:b13 with
     | false=>rfl
     | true=>have g:b13=true:=hg;have h9:=(c11_10.out (c12_11.out (c13_12.out g)));rw[hbi]at h9;cases h9
    subst hbi e5 e9 n12 n13
    clear hr hun
    obtain rfl:=f5.out rfl
    obtain rfl:=f9.out rfl
    refine wpOp_step rfl (fun K hK=>?_)
    go_simp
    exact hK _ _ ⟨b0,b1,b2,b3,b4,true,b6,b7,b8,true,true,b11,false,false,b14,x0',x1',x2',x3',x4',(.slice (some ⟨bP,oP,none⟩) xs.length cap),x6',x7',x8',(.int .i64 (p:Int)),(.pointer (some ⟨bP,oP+p*9,none⟩)),x11',x12',x13',x14',rfl,by kernel_rfl,⟨fun _=>⟨(hPW.out.1 rfl).1,nofun⟩,nofun⟩,f0,f1,f2,f3,f4,fun _=>rfl,f6,f7,f8,fun _=>rfl,fun _=>rfl,f11,nofun,f14,c2_1,c3_2,c4_3,c5_4,c7_6,c8_7,c9_8,fun _=>rfl,fun _=>rfl,fun _=>rfl,nofun,nofun,nofun,c14_13⟩
   ·have hbi:b11=false:=by simpa using hun
    have e10:b10=true:=by simpa using ready_dep hr rfl ⟨10,.data⟩ (by simp) rfl
    have n12:b12=false:=by
     cases hg:b12 with
     | false=>rfl
     | true=>have g:b12=true:=hg;have h9:=(c12_11.out g);rw[hbi]at h9;cases h9
    have n13:b13=false:=by
     cases hg:b13 with
     | false=>rfl
     | true=>have g:b13=true:=hg;have h9:=(c12_11.out (c13_12.out g));rw[hbi]at h9;cases h9
    subst hbi e10 n12 n13
    clear hr hun
    obtain rfl:=f10.out rfl
    have hPB:=(hPW.out.1 rfl).1
    have cx0:=cell_later hPB p0
    have cx1:=cell_later hPB p1
    have cx2:=cell_later hPB p2
    have cx3:=cell_later hPB p3
    have cx4:=cell_later hPB p4
    have cx5:=cell_later hPB p5
    have cx6:=cell_later hPB p6
    have cx7:=cell_later hPB p7
    have cx8:=cell_later hPB p8
    refine wpOp_step rfl (fun K hK=>?_)
    go_simp
    exact hK _ _ ⟨b0,b1,b2,b3,b4,b5,b6,b7,b8,b9,true,true,false,false,b14,x0',x1',x2',x3',x4',x5',x6',x7',x8',x9',(.pointer (some ⟨bP,oP+p*9,none⟩)),(PV f),x12',x13',x14',rfl,by kernel_rfl,⟨fun _=>⟨(hPW.out.1 rfl).1,nofun⟩,nofun⟩,f0,f1,f2,f3,f4,f5,f6,f7,f8,f9,fun _=>rfl,fun _=>rfl,nofun,f14,c2_1,c3_2,c4_3,c5_4,c7_6,c8_7,c9_8,c10_5,c10_9,fun _=>rfl,fun _=>rfl,nofun,nofun,c14_13⟩
   ·have hbi:b12=false:=by simpa using hun
    have e11:b11=true:=by simpa using ready_dep hr rfl ⟨11,.data⟩ (by simp) rfl
    have n13:b13=false:=by
     cases hg:b13 with
     | false=>rfl
     | true=>have g:b13=true:=hg;have h9:=(c13_12.out g);rw[hbi]at h9;cases h9
    subst hbi e11 n13
    clear hr hun
    obtain rfl:=f11.out rfl
    refine wpOp_step rfl (fun K hK=>?_)
    go_simp
    have hPB:=(hPW.out.1 rfl).1
    refine (start_any f nR nP w' HPR.out.regs HPR.out.par HPR.out.reg1 HPR.out.par1).mono ?_
    rintro e w4 ⟨⟨tv',rfl,ho⟩,hx4⟩
    obtain⟨aK,cK,rfl⟩:=ORow.val (cells:=intC) ho
    exact hK _ _ ⟨b0,b1,b2,b3,b4,b5,b6,b7,b8,b9,b10,true,true,false,b14,x0',x1',x2',x3',x4',x5',x6',x7',x8',x9',x10',(PV f),(.agg #[.bool false,.slice aK (startT nP nR f.d.rest).length cK,.slice none 0 0]),x13',x14',rfl,by kernel_rfl,⟨fun _=>⟨hPB.trans (hx4.mono hPB.size),fun _=>⟨aK,_,cK,rfl,ORow.mono ho hPB.size⟩⟩,nofun⟩,f0,f1,f2,f3,f4,f5,f6,f7,f8,f9,f10,fun _=>rfl,nofun,f14,c2_1,c3_2,c4_3,c5_4,c7_6,c8_7,c9_8,c10_5,c10_9,c11_10,fun _=>rfl,nofun,fun _=>rfl,c14_13⟩
   ·have hbi:b13=false:=by simpa using hun
    have e0:b0=true:=by simpa using ready_dep hr rfl ⟨0,.data⟩ (by simp) rfl
    have e12:b12=true:=by simpa using ready_dep hr rfl ⟨12,.data⟩ (by simp) rfl
    subst hbi e0 e12 
    clear hr hun
    obtain rfl:=f0.out rfl
    obtain⟨aK,lK,cK,rfl,hoK⟩:=(hPW.out.1 rfl).2 rfl
    refine wpOp_step rfl (fun K hK=>?_)
    go_simp
    have hPB:=(hPW.out.1 rfl).1
    refine (reach_s 0 rfl false HST.out (HW.out.later hPB) HPR.out.ins0 HPR.out.ins1 HPR.out.reg1 (ORow.mono hoK HW.out.base) (GA.nil _) HOK0.out HSO.out).mono ?_
    rintro e w5 ⟨⟨rfl,zs1,hv1,hw1,hm1,hov⟩,hx5⟩
    have hov2:∀g,hv1.ownBlock=some g→w.heap.size≤g:=fun g e=>by
     rcases hov g e with q | q
     ·cases q
     ·exact Nat.le_trans hPB.size q
    have hbx:ButL [gW,gS] w w5:=(ButL.of_below hPB).then hx5 (fun g hg=>.inl hg)
    exact hK _ _ ⟨true,b1,b2,b3,b4,b5,b6,b7,b8,b9,b10,b11,true,true,b14,(.pointer (some ⟨gW,0,none⟩)),x1',x2',x3',x4',x5',x6',x7',x8',x9',x10',x11',(.agg #[.bool false,.slice aK lK cK,.slice none 0 0]),(.nilIface),x14',rfl,by kernel_rfl,⟨nofun,fun _=>⟨zs1,hv1,hw1,hm1,hov2,hbx⟩⟩,fun _=>rfl,f1,f2,f3,f4,f5,f6,f7,f8,f9,f10,f11,fun _=>rfl,f14,c2_1,c3_2,c4_3,c5_4,c7_6,c8_7,c9_8,c10_5,c10_9,c11_10,c12_11,fun _=>rfl,fun _=>rfl,fun _=>rfl⟩
   ·have hbi:b14=false:=by simpa using hun
    have e13:b13=true:=by simpa using ready_dep hr rfl ⟨13,.data⟩ (by simp) rfl
    subst hbi e13 
    clear hr hun
    obtain rfl:=f13.out rfl
    refine wpOp_step rfl (fun K hK=>?_)
    go_simp
    exact hK _ _ ⟨b0,b1,b2,b3,b4,b5,b6,b7,b8,b9,b10,b11,b12,true,true,x0',x1',x2',x3',x4',x5',x6',x7',x8',x9',x10',x11',x12',(.nilIface),(.nilIface),rfl,by kernel_rfl,hPW,f0,f1,f2,f3,f4,f5,f6,f7,f8,f9,f10,f11,fun _=>rfl,fun _=>rfl,c2_1,c3_2,c4_3,c5_4,c7_6,c8_7,c9_8,c10_5,c10_9,c11_10,c12_11,c13_0,c13_12,fun _=>rfl⟩
  ·rintro listed a' w' ⟨b0,b1,b2,b3,b4,b5,b6,b7,b8,b9,b10,b11,b12,b13,b14,x0',x1',x2',x3',x4',x5',x6',x7',x8',x9',x10',x11',x12',x13',x14',rfl,rfl,hPW,f0,f1,f2,f3,f4,f5,f6,f7,f8,f9,f10,f11,f13,f14,c2_1,c3_2,c4_3,c5_4,c7_6,c8_7,c9_8,c10_5,c10_9,c11_10,c12_11,c13_0,c13_12,c14_13⟩ hrd
   have e0:b0=true:=by simpa using ready_nextb hrd 0 rfl (by simp[Region.binds])
   have e1:b1=true:=by simpa using ready_nextb hrd 1 rfl (by simp[Region.binds,e0])
   have e2:b2=true:=by simpa using ready_nextb hrd 2 rfl (by simp[Region.binds,e0,e1])
   have e3:b3=true:=by simpa using ready_nextb hrd 3 rfl (by simp[Region.binds,e0,e1,e2])
   have e4:b4=true:=by simpa using ready_nextb hrd 4 rfl (by simp[Region.binds,e0,e1,e2,e3])
   have e5:b5=true:=by simpa using ready_nextb hrd 5 rfl (by simp[Region.binds,e0,e1,e2,e3,e4])
   have e6:b6=true:=by simpa using ready_nextb hrd 6 rfl (by simp[Region.binds,e0,e1,e2,e3,e4,e5])
   have e7:b7=true:=by simpa using ready_nextb hrd 7 rfl (by simp[Region.binds,e0,e1,e2,e3,e4,e5,e6])
   have e8:b8=true:=by simpa using ready_nextb hrd 8 rfl (by simp[Region.binds,e0,e1,e2,e3,e4,e5,e6,e7])
   have e9:b9=true:=by simpa using ready_nextb hrd 9 rfl (by simp[Region.binds,e0,e1,e2,e3,e4,e5,e6,e7,e8])
   have e10:b10=true:=by simpa using ready_nextb hrd 10 rfl (by simp[Region.binds,e0,e1,e2,e3,e4,e5,e6,e7,e8,e9])
   have e11:b11=true:=by simpa using ready_nextb hrd 11 rfl (by simp[Region.binds,e0,e1,e2,e3,e4,e5,e6,e7,e8,e9,e10])
   have e12:b12=true:=by simpa using ready_nextb hrd 12 rfl (by simp[Region.binds,e0,e1,e2,e3,e4,e5,e6,e7,e8,e9,e10,e11])
   have e13:b13=true:=by simpa using ready_nextb hrd 13 rfl (by simp[Region.binds,e0,e1,e2,e3,e4,e5,e6,e7,e8,e9,e10,e11,e12])
   have e14:b14=true:=by simpa using ready_nextb hrd 14 rfl (by simp[Region.binds,e0,e1,e2,e3,e4,e5,e6,e7,e8,e9,e10,e11,e12,e13])
   subst e0 e1 e2 e3 e4 e5 e6 e7 e8 e9 e10 e11 e12 e13 e14
   obtain rfl:=f0.out rfl
   obtain rfl:=f1.out rfl
   obtain rfl:=f2.out rfl
   obtain rfl:=f3.out rfl
   obtain rfl:=f4.out rfl
   obtain rfl:=f5.out rfl
   obtain rfl:=f6.out rfl
   obtain rfl:=f7.out rfl
   obtain rfl:=f8.out rfl
   obtain rfl:=f9.out rfl
   obtain rfl:=f10.out rfl
   obtain rfl:=f11.out rfl
   obtain rfl:=f13.out rfl
   obtain rfl:=f14.out rfl
   clear hrd c2_1 c3_2 c4_3 c5_4 c7_6 c8_7 c9_8 c10_5 c10_9 c11_10 c12_11 c13_0 c13_12 c14_13
   have hd:=hPW.out.2 rfl
   clear hPW
   go_wp2_with fail
   go_simp
   go_meet
   exact⟨rfl,hd⟩
 case rest =>
  obtain⟨rfl,zs1,hv1,hw1,hm1,hov,hbx⟩:=hcut
  have HI0:Hid (RuI (xs.map FC.d) f.d.ins R nR W0 gW gS nI p cv iv w wc zs1 hv1 (startS f.d).due):=by
   have e9:(⟨zs1.map SR.o,(startS f.d).due⟩:WkS)=startS f.d:=by rw[hm1]
   refine⟨hw1,⟨k0,by rw[e9];exact HR.out⟩,by rw[e9];exact HOK1.out,by rw[e9];exact WZg.start f.d,hbx,hov,?_,by rw[e9];exact Clo.start f.d⟩
   refine hbx.below HB.out (fun g hg=>?_) HW.out.base
   simp only[List.mem_cons,List.not_mem_nil,or_false]at hg
   rcases hg with e | e
   ·rw[e];exact HW.out.g1
   ·rw[e];exact HW.out.g2
  obtain⟨due1,hdue1⟩:∃d,(startS f.d).due=d:=⟨_,rfl⟩
  rw[hdue1]at HI0
  clear hw1 hm1 hov hbx c0 c1 p0 p1 p2 p3 p4 p5 p6 p7 p8 HST HSO HOK0 HOK1 HR hdue1
  go_wp2_with fail
  go_loopw [] (fun wr=>∃zs hv due,Hid (RuI (xs.map FC.d) f.d.ins R nR W0 gW gS nI p cv iv w wr zs hv due)) (fun wr=>2*cntB false wr gS+slLen (wr.cell? ⟨gW,4,none⟩))
  case atStart=>exact⟨zs1,hv1,due1,HI0⟩
  case round =>
   clear HI0
   obtain⟨zs,hv,due,HI⟩:=hrel
   obtain⟨l,hl1,hl2,hl3⟩:=HI.out.wl.hp
   obtain⟨_,c1,_,_,c4⟩:=HI.out.wl.cells
   obtain⟨aH,cH,eH⟩:=hl1.row.val
   rw[nz_len]at eH
   subst eH
   cases l with
   | nil =>
    have HRE:Hid (R=.ok ⟨zs.map SR.o,due⟩):=by
     obtain⟨k,hk⟩:=HI.out.run
     exact runs_end hk (fun b hb=>by have:=(hl2 b).2 hb;cases this)
    have c4:wr.cell? ⟨gW,4,none⟩=some (.slice aH 0 cH):=c4
    have HAO:Hid (∀b:Nat,due[b]?≠some true):=fun b hb=>by have:=(hl2 b).2 hb;cases this
    clear hl1 hl2 hl3
    go_wp2_with fail
    refine (HLR.out wr zs _ due HI.out.wl HI.out.low (fun a n hn hr t ht=>HI.out.clo a n hn hr (HAO.out a) t ht)).mono ?_
    rintro e w1 ⟨z,rfl,hz,hx1⟩
    have HX1:Hid (Below wr.heap.size wr w1):=hx1
    have HZ:Hid (LrP (zs.map SR.o) f.d z):=hz
    have c1':w1.cell? ⟨gW,1,none⟩=some (.int .i64 p):=cell_later hx1 c1
    clear c1 c4 hx1 hz
    cases z with
    | none =>
     have t0:lsI none=-1:=rfl
     rw[t0]
     go_wp2_with fail
     go_ret
     refine⟨?_,HI.out.but.thenB HX1.out⟩
     rw[HRE.out]
     exact .inr ⟨HZ.out,rfl,zs,_,HI.out.wl.later HX1.out,rfl⟩
    | some i =>
     have t0:lsI (some i)=(i:Int):=rfl
     rw[t0]
     have tg:decide ((0:Int)≤(i:Int))=true:=by simp
     go_wp2_with (go_at_call 28;refine (fat_any _ _ _ _).mono ?_;rintro e w9 ⟨rfl,rfl⟩)
     go_ret
     refine⟨?_,HI.out.but.thenB HX1.out⟩
     rw[HRE.out]
     exact .inl ⟨i,HZ.out _,rfl⟩
   | cons t l' =>
    have hdt:due[t]?=some true:=(hl2 t).1 (by simp)
    have htI:t<nI:=by have:=(List.getElem?_eq_some_iff.1 hdt).1;rw[HI.out.wl.dul]at this;exact this
    have hle:(t :: l').length≤6000:=by rw[hl3];exact Nat.le_trans List.countP_le_length (by rw[HI.out.wl.dul];exact HPR.out.ins1)
    have HLE:Hid (IsLeast due t):=heap_least hl1 hl2 rfl
    obtain⟨x,hx⟩:=HI.out.ok.due t hdt
    have HX:Hid ((zs.map SR.o)[t]?=some (some x)):=hx
    obtain⟨n,hn⟩:∃n,f.d.ins[t]?=some n:=⟨f.d.ins[t]'(by rw[HPR.out.ins];exact htI),by simp⟩
    have HN:Hid (f.d.ins[t]?=some n):=hn
    obtain⟨k,hk⟩:∃k:Nat,n.op=k:=⟨n.op.toNat,by have:=(HPR.out.ok n (List.mem_of_getElem? hn)).op1;omega⟩
    have HPS:Hid (passW (xs.map FC.d) f.d.ins t ⟨zs.map SR.o,due⟩=psV (xs.map FC.d) n t x ⟨zs.map SR.o,due.set t false⟩):=passW_psV hn hx
    have HPA:Hid (∀(w1:World) (hv':Value),WlV W0.heap.size gW gS nI p cv iv w1 zs hv' (due.set t false)→Below W0.heap.size W0 w1→Calls Tryz.prog 36 #[.pointer (some ⟨gW,0,none⟩),.int .i64 t] w1 fun e w'=>PsA W0.heap.size gW gS nI p cv iv hv' w1 (psV (xs.map FC.d) n t x ⟨zs.map SR.o,due.set t false⟩) e w'∧ButL (gW :: gS :: hv'.ownBlock.toList) w1 w'):=fun w1 hv' h1 h2 =>
     pass_any W0 aC cap xs p nR nI nP gW gS t k f E cv iv hv' zs (due.set t false) w1 x n HC.out h1 h2 hn hx (HI.out.ok.off t) (HI.out.gz t x hx) hk
    have HPOP:Hid (Calls Tryz.prog 37 #[.pointer (some ⟨gW,4,none⟩)] wr fun e w1=>e=.returned (.int .i64 t)∧∃hv',WlV W0.heap.size gW gS nI p cv iv w1 zs hv' (due.set t false)∧hv'.ownBlock=(Value.slice aH (t :: l').length cH).ownBlock∧ButL (gW :: (Value.slice aH (t :: l').length cH).ownBlock.toList) wr w1):=by
     refine (pop_any gW 4 W0.heap.size _ (t :: l') t wr _ _ HI.out.wl.blk rfl (by decide) hl1 rfl hle HI.out.wl.base).mono ?_
     rintro e w1 ⟨rfl,hv',l2,q1,q2,q3,q4,q5,q6⟩
     exact⟨rfl,hv',HI.out.wl.popped hl2 hl3 hdt q1 q2 q3 q4 q5 q6,q6,q5⟩
    have c4:wr.cell? ⟨gW,4,none⟩=some (.slice aH (l'.length+1) cH):=c4
    obtain⟨rr,hrr⟩:∃rr,psV (xs.map FC.d) n t x ⟨zs.map SR.o,due.set t false⟩=rr:=⟨_,rfl⟩
    have HRR:Hid (passW (xs.map FC.d) f.d.ins t ⟨zs.map SR.o,due⟩=rr):=HPS.out.trans hrr
    rw[hrr]at HPA
    have HST:Hid ((∀e,rr=.error e→R=.error e)∧(∀s',rr=.ok s'→∃k',Runs (xs.map FC.d) f.d.ins k' s' R)):=by
     obtain⟨k9,hk9⟩:=HI.out.run
     have h9:=runs_step hk9 HLE.out
     rw[HRR.out]at h9
     exact h9
    have HOH:Hid (∀g,(Value.slice aH (t :: l').length cH).ownBlock=some g→w.heap.size≤g):=HI.out.own
    clear hl1 hl2 hl3 hn hx hk hrr HPS
    have tgt:decide ((0:Int)<(l'.length:Int)+1)=true:=by simp
    go_wp2_with (go_at_call 37;refine (HPOP.out).mono ?_;rintro e w1 ⟨rfl,hv',hw1,hq6,hq5⟩;have HW1:Hid (WlV W0.heap.size gW gS nI p cv iv w1 zs hv' (due.set t false)):=hw1;have HB1:Hid (ButL [gW,gS] w w1):=(HI.out.but.then hq5 (fun g hg=>(by simp only[List.mem_cons,Option.mem_toList]at hg;rcases hg with e | e;exact .inl (by simp[e]);exact .inr (HOH.out g e))));have HL1:Hid (Below W0.heap.size W0 w1):=(hq5.below HI.out.low (fun g hg=>HI.out.wl.own g (by simp only[List.mem_cons]at hg ⊢;rcases hg with e | e;exact .inl e;exact .inr (.inr e)) |>.1) HI.out.wl.base);have HO1:Hid (∀g,hv'.ownBlock=some g→w.heap.size≤g):=(fun g e=>HOH.out g (by rw[←hq6];exact e));clear hw1 hq6 hq5)
    refine (HPA.out w1 hv' HW1.out HL1.out).mono ?_
    rintro e w2 ⟨hps,hx2⟩
    have HB2:Hid (ButL [gW,gS] w w2):=HB1.out.then hx2 (fun g hg=>by
     simp only[List.mem_cons,Option.mem_toList]at hg
     rcases hg with e | e | e
     ·exact .inl (by simp[e])
     ·exact .inl (by simp[e])
     ·exact .inr (HO1.out g e))
    have HL2:Hid (Below W0.heap.size W0 w2):=HW1.out.below HL1.out hx2
    have HZ2:Hid (w.heap.size≤w1.heap.size):=HB1.out.size
    clear hx2
    cases rr with
    | error x9 =>
     obtain rfl:=hps
     have HRE:Hid (R=.error x9):=HST.out.1 x9 rfl
     have e9:EV (some ((x9.1:Int),(p:Int),(x9.2:Int)))=.iface 80 (FV (x9.1:Int) (p:Int) (x9.2:Int)):=rfl
     rw[e9]
     go_wp2_with fail
     go_ret
     refine⟨?_,HB2.out⟩
     rw[HRE.out]
     rfl
    | ok s' =>
     obtain⟨rfl,zs2,hv2,hw2,hm2,ho2⟩:=hps
     have e9:EV none=.nilIface:=rfl
     rw[e9]
     have e8:(⟨zs2.map SR.o,s'.due⟩:WkS)=s':=by rw[hm2]
     have HI2:Hid (RuI (xs.map FC.d) f.d.ins R nR W0 gW gS nI p cv iv w w2 zs2 hv2 s'.due):=by
      refine⟨hw2,?_,?_,?_,HB2.out,fun g e=>?_,HL2.out,?_⟩
      ·rw[e8];exact HST.out.2 s' rfl
      ·rw[e8];exact passW_ok (fun n hn=>HPR.out.ok n hn) (by rw[HPR.out.ins];exact htI) HI.out.ok HRR.out
      ·rw[e8];exact HI.out.gz.pass HRR.out
      ·rcases ho2 g e with q | q
       ·exact HO1.out g q
       ·exact Nat.le_trans HZ2.out q
      ·rw[e8];exact HI.out.clo.pass (fun n hn=>HPR.out.ok n hn) HPR.out.goes (by rw[HPR.out.ins];exact htI) HI.out.ok HRR.out
     have HMU:Hid (2*cntB false w2 gS+slLen (w2.cell? ⟨gW,4,none⟩)<2*cntB false wr gS+slLen (wr.cell? ⟨gW,4,none⟩)):=by
      show _<_
      rw[HI2.out.muv,HI.out.muv,e8]
      exact (mu_pass (by rw[HI.out.ok.l1,HI.out.ok.l2]) HLE.out.1 HRR.out).1
     clear hw2 hm2 ho2 e8
     go_wp2_with fail
     go_roundw
     case rel=>exact⟨zs2,hv2,s'.due,HI2⟩
     case measure=>exact HMU.out
end Go.Proofs.YtjglgbepobmjhaaGreatDoor
