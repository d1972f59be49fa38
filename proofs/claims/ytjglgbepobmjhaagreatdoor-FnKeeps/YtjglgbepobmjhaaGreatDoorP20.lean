import Derived.Test.YtjglgbepobmjhaaGreatDoorP19
import Derived.Test.YtjglgbepobmjhaaGreatDoorP10
import Derived.BigRegion
import Derived.BigQuiet
import Derived.Deep.QuietTactic
import Derived.Test.YtjglgbepobmjhaaGreatDoorP16
import Derived.Test.YtjglgbepobmjhaaGreatDoorP07
import Derived.Test.YtjglgbepobmjhaaGreatDoorP09
import Derived.LoopN
set_option linter.unusedVariables false
set_option linter.unusedSimpArgs false
set_option maxRecDepth 20000
set_option maxHeartbeats 8000000
namespace Go.Proofs.YtjglgbepobmjhaaGreatDoor
open Go.RowKit
theorem idx4_at {k:Nat} {n:ID} (h0:1≤k) (h1:k<43) {m:Nat} {f:Nat × Int} (hf:(pfl k n)[m]?=some f) (w:World):(Instr.index 234 (F8 k n) (.int .i64 m)).run Tryz.prog w=.ok (.agg #[.int .i64 f.1,.int .i64 f.2]) w:=by
 have hm:m<4:=by have:=(List.getElem?_eq_some_iff.1 hf).1;simpa [pfl] using this
 obtain⟨q0,e0,_⟩:=lay_nat h0 h1 (j:=0) (by omega)
 obtain⟨q1,e1,_⟩:=lay_nat h0 h1 (j:=1) (by omega)
 obtain⟨q2,e2,_⟩:=lay_nat h0 h1 (j:=2) (by omega)
 obtain⟨q3,e3,_⟩:=lay_nat h0 h1 (j:=3) (by omega)
 unfold pfl at hf
 rw[e0,e1,e2,e3]at hf
 simp only[F8,e0,e1,e2,e3]
 have hc:m=0∨m=1∨m=2∨m=3:=by omega
 rcases hc with rfl | rfl | rfl | rfl<;>simp at hf<;>subst hf
 ·exact idx4_0 _ _ _ _ _ _ _ _ w
 ·exact idx4_1 _ _ _ _ _ _ _ _ w
 ·exact idx4_2 _ _ _ _ _ _ _ _ w
 ·exact idx4_3 _ _ _ _ _ _ _ _ w
theorem prAll_at {l:List (Nat × Int)} {m:Nat} {f:Nat × Int} {s:RdS} {R:Option RdS} (hf:l[m]?=some f) (h:prAll (l.drop m) s=R):(prStep f.1 f.2 s).bind (prAll (l.drop (m+1)))=R:=by
 obtain⟨hlt,he⟩:=List.getElem?_eq_some_iff.1 hf
 rw[List.drop_eq_getElem_cons hlt,he]at h
 exact h
theorem iread_any (W0:World) (S:List Nat) (B gF:Nat) (tv:Value) (w:World) (sv kv:Value) (s:RdS) (n:ID) (k:Nat) (hop:n.op=k) (h0:1≤k) (h1:k<43) (hla:LayAt w) (h:FrV W0 S B gF tv w sv kv s) (hok:∀f∈pfl k n,f.1<24∧PrOkF s.ts.length f.1 f.2) (hl:s.ts.length≤250) (hs:s.stay.length≤100) (hk:s.taken.length≤100) :
  Calls Tryz.prog 65 #[.pointer (some ⟨gF,0,none⟩),IV n] w fun e w'=>FrA W0 S B gF tv e w' (prAll (pfl k n) s):=by
 have HF:Hid (FrV W0 S B gF tv w sv kv s):=h
 have HLY:Hid (LayAt w):=hla
 have HOK:Hid (∀f∈pfl k n,f.1<24∧PrOkF s.ts.length f.1 f.2):=hok
 obtain⟨R,hR⟩:∃R,prAll (pfl k n) s=R:=⟨_,rfl⟩
 have HR:Hid (prAll (pfl k n) s=R):=hR
 rw[hR]
 have HIX:Hid (∀(m:Nat) (f:Nat × Int),(pfl k n)[m]?=some f→∀w,(Instr.index 234 (F8 k n) (.int .i64 m)).run Tryz.prog w=.ok (.agg #[.int .i64 f.1,.int .i64 f.2]) w):=fun m f hf w=>idx4_at h0 h1 hf w
 have HK:Hid (n.op=k):=hop
 clear h hla hok hR hop
 go_enter Tryz.func65,Tryz.ntmps65
 go_wp2_with fail
 refine (fieldsof_any n k _ HK.out h1 (HLY.out.later (bw1 _ _))).mono ?_
 rintro e w1 ⟨rfl,hx⟩
 have HF1:Hid (FrV W0 S B gF tv w1 sv kv s):=(HF.out.later (bw1 _ _)).later hx
 clear hx
 obtain⟨F,hF⟩:∃F,F8 k n=F:=⟨_,rfl⟩
 rw[hF]at HIX ⊢
 clear hF HF
 go_wp2_with fail
 go_loopw [9] (fun i wr=>∃(m:Nat) (sv' kv':Value) (s':RdS),m≤4∧i=.int .i64 m∧Hid (FrV W0 S B gF tv wr sv' kv' s')∧Hid (prAll ((pfl k n).drop m) s'=R)∧Hid (s'.ts.length=s.ts.length∧s'.taken.length≤s.taken.length+m∧s'.stay.length≤s.stay.length+3*m)) (fun i _=>4-(intOf i).toNat)
 case atStart=>exact⟨0,sv,kv,s,by omega,rfl,HF1,HR,⟨rfl,by simp,by simp⟩⟩
 case round =>
  clear HF1 HR
  obtain⟨m,sv',kv',s',hm,rfl,HI,HR,HT⟩:=hrel
  by_cases k1:m<4
  ·obtain⟨f,hf⟩:∃f,(pfl k n)[m]?=some f:=⟨(pfl k n)[m]'(by simp[pfl];exact k1),by simp⟩
   have hix:=HIX.out m f hf
   have HO:Hid (f.1<24∧PrOkF s'.ts.length f.1 f.2):=by show _∧_;rw[HT.out.1];exact HOK.out f (List.mem_of_getElem? hf)
   have HRm:Hid _:=prAll_at hf HR.out
   obtain⟨fr,fx⟩:=f
   dsimp only at hix HO HRm
   obtain⟨o,ho⟩:∃o,prStep fr fx s'=o:=⟨_,rfl⟩
   have HPO:Hid (prStep fr fx s'=o):=ho
   have HL:Hid (s'.ts.length≤250∧s'.stay.length≤900∧s'.taken.length≤900):=by show _∧_∧_;have:=HT.out;omega
   rw[ho]at HRm
   clear hf ho HR
   cases o with
   | none =>
    have HRn:Hid (R=none):=HRm.out.symm
    clear HRm
    go_wp2_with fail
    refine (rdfield_any W0 S B gF tv _ sv' kv' s' fr fx HO.out.1 (HI.out.later (bw1 _ _)) HO.out.2 HL.out.1 HL.out.2.1 HL.out.2.2).mono ?_
    rw[HPO.out]
    rintro e w2 ⟨rfl,hb2⟩
    go_wp2_with fail
    go_ret
    rw[HRn.out]
    exact⟨rfl,hb2⟩
   | some s2 =>
    have HRn:Hid (prAll ((pfl k n).drop (m+1)) s2=R):=HRm.out
    have HTn:Hid (s2.ts.length=s.ts.length∧s2.taken.length≤s.taken.length+(m+1)∧s2.stay.length≤s.stay.length+3*(m+1)):=by
     have h9:=prStep_len HPO.out
     have h8:=HT.out
     exact⟨by omega,by omega,by omega⟩
    clear HRm
    go_wp2_with fail
    refine (rdfield_any W0 S B gF tv _ sv' kv' s' fr fx HO.out.1 (HI.out.later (bw1 _ _)) HO.out.2 HL.out.1 HL.out.2.1 HL.out.2.2).mono ?_
    rw[HPO.out]
    rintro e w2 ⟨rfl,sv2,kv2,hq⟩
    have HQ:Hid (FrV W0 S B gF tv w2 sv2 kv2 s2):=hq
    clear hq
    go_wp2_with fail
    go_roundw
    case rel=>exact⟨m+1,sv2,kv2,s2,by omega,by go_num,HQ,HRn,HTn⟩
    case measure=>simp[intOf];omega
  ·have e:m=4:=by omega
   have HRn:Hid (R=some s'):=by show _=_;have:=HR.out;rw[e]at this;exact this.symm
   clear HR
   go_wp2_with fail
   go_ret
   rw[HRn.out]
   exact⟨rfl,sv',kv',HI.out⟩
theorem rups_any (W0:World) (S:List Nat) (B gF:Nat) (tv:Value) (w:World) (sv kv:Value) (s:RdS) (us:List UD) (a:Option Addr) (len cap:Nat) (h:FrV W0 S B gF tv w sv kv s) (hul:us.length=len) (hu:SlA w 2 UD.cells a us) (hlen:len≤1048576) (hl:s.ts.length≤250) (hok:∀u∈us,u.l=true→0≤u.i∧u.i<s.ts.length) :
  Calls Tryz.prog 66 #[.pointer (some ⟨gF,0,none⟩),.slice a len cap] w fun e w'=>e=.returned (.bool (rdUps us s.ts))∧Below w.heap.size w w':=by
 have HF:Hid (FrV W0 S B gF tv w sv kv s):=h
 have HU:Hid (SlA w 2 UD.cells a us):=hu
 have HUL:Hid (us.length=len):=hul
 have HOK:Hid (∀u∈us,u.l=true→0≤u.i∧u.i<s.ts.length):=hok
 clear h hu hul hok
 go_enter Tryz.func66,Tryz.ntmps66
 go_wp2_with fail
 go_loopw [9] (fun i wr=>∃m:Nat,m≤len∧i=.int .i64 m∧Below w.heap.size w wr∧Hid (rdUps (us.drop m) s.ts=rdUps us s.ts)) (fun i _=>len-(intOf i).toNat)
 case atStart=>exact⟨0,Nat.zero_le _,rfl,Below.refl _ _,rfl⟩
 case round =>
  obtain⟨m,hm,rfl,hB,HD⟩:=hrel
  by_cases k1:m<len
  ·obtain⟨u,hu⟩:∃u,us[m]?=some u:=⟨us[m]'(by rw[HUL.out];exact k1),by simp⟩
   obtain⟨b,off,rfl,hbl,hc⟩:=HU.out m u hu
   have HD2:Hid (((!u.l || s.ts.getD u.i.toNat 0 == 2) && rdUps (us.drop (m+1)) s.ts)=rdUps us s.ts):=by
    show _=_
    rw[←HD.out]
    obtain⟨hlt,he⟩:=List.getElem?_eq_some_iff.1 hu
    rw[List.drop_eq_getElem_cons hlt,he]
    rfl
   have HO:Hid (u.l=true→0≤u.i∧u.i<s.ts.length):=HOK.out u (List.mem_of_getElem? hu)
   have c0:wr.cell? ⟨b,off+m*2,none⟩=some (.bool u.l):=cell_later hB (hc 0 _ rfl)
   have c1:wr.cell? ⟨b,off+m*2+1,none⟩=some (.int .i64 u.i):=cell_later hB (hc 1 _ rfl)
   clear hc hu hbl HD
   obtain⟨ul,ui⟩:=u
   dsimp only at c0 c1 HO HD2
   cases ul
   ·have HD3:Hid (rdUps (us.drop (m+1)) s.ts=rdUps us s.ts):=by show _=_;have:=HD2.out;simpa using this
    clear HD2
    go_wp2_with fail
    go_quiet (fail)
    go_wp2_with fail
    go_roundw
    case rel=>exact⟨m+1,by omega,by go_num,Below.drewN (below_alloc hB _) nq,HD3⟩
    case measure=>simp[intOf];omega
   ·obtain⟨x0,x1⟩:=HO.out rfl
    obtain⟨i,rfl⟩:∃i:Nat,ui=i:=⟨ui.toNat,by omega⟩
    have HFa:=(HF.out.later hB).later (bw1 wr (.cells #[.bool true,.int .i64 (i:Int)] 239))
    obtain⟨g,cp,rfl⟩:=HF.out.ty.open' (by omega)
    obtain⟨f0,_,_⟩:=HFa.cells
    obtain⟨z,hz⟩:∃z,s.ts[i]?=some z:=⟨s.ts[i]'(by omega),by simp⟩
    have cz:=HFa.ty.cell hz
    have HZ:Hid (s.ts.getD (i:Int).toNat 0=z):=by show _=_;rw[Int.toNat_natCast,List.getD_eq_getElem?_getD,hz];rfl
    rw[HZ.out]at HD2
    clear hz HFa HO
    by_cases hz2:z=2
    ·have t:(z != 2)=false:=by simpa using hz2
     have HD3:Hid (rdUps (us.drop (m+1)) s.ts=rdUps us s.ts):=by show _=_;have:=HD2.out;simpa [hz2] using this
     clear HD2
     go_wp2_with fail
     go_quiet (fail)
     go_wp2_with fail
     go_roundw
     case rel=>exact⟨m+1,by omega,by go_num,Below.drewN (below_alloc hB _) nq,HD3⟩
     case measure=>simp[intOf];omega
    ·have t:(z != 2)=true:=by simpa using hz2
     have HD3:Hid (false=rdUps us s.ts):=by show _=_;have:=HD2.out;have hz3:(z == 2)=false:=(by simpa using hz2);rw[hz3]at this;simpa using this
     clear HD2
     go_wp2_with fail
     go_quiet (fail)
     go_wp2_with fail
     go_ret
     exact⟨ret_bo HD3.out,Below.drewN (below_alloc hB _) nq⟩
  ·have HE:Hid (true=rdUps us s.ts):=by show _=_;rw[←HD.out,List.drop_of_length_le (by rw[HUL.out];omega)];rfl
   go_wp2_with fail
   go_ret
   exact⟨ret_bo HE.out,hB⟩
theorem putAll_at {l:List (Nat × Int)} {m:Nat} {f:Nat × Int} {ts R:List Int} (hf:l[m]?=some f) (h:putAll (l.drop m) ts=R):putAll (l.drop (m+1)) (putL f.2.toNat (givenV f.1) ts)=R:=by
 obtain⟨hlt,he⟩:=List.getElem?_eq_some_iff.1 hf
 rw[List.drop_eq_getElem_cons hlt,he]at h
 exact h
theorem putL_at {l:List Int} {x m:Nat} {t:Int} {ts R:List Int} (ht:l[m]?=some t) (h:putL (x+m) (l.drop m) ts=R):putL (x+(m+1)) (l.drop (m+1)) (ts.set (x+m) t)=R:=by
 obtain⟨hlt,he⟩:=List.getElem?_eq_some_iff.1 ht
 rw[List.drop_eq_getElem_cons hlt,he]at h
 exact h
theorem given_len (r:Nat):(givenV r).length≤2:=by
 unfold givenV
 repeat' split
 all_goals simp
theorem iput_any (W0:World) (S:List Nat) (B gF:Nat) (tv:Value) (w:World) (sv kv:Value) (s:RdS) (n:ID) (k:Nat) (hop:n.op=k) (h0:1≤k) (h1:k<43) (hla:LayAt w) (h:FrV W0 S B gF tv w sv kv s) (hok:∀f∈pfl k n,f.1<24∧PuOkF s.ts.length f.1 f.2) (hl:s.ts.length≤250) :
  Calls Tryz.prog 68 #[.pointer (some ⟨gF,0,none⟩),IV n] w fun e w'=>e=.returned (.tuple #[])∧FrV W0 S B gF tv w' sv kv ⟨putAll (pfl k n) s.ts,s.taken,s.stay⟩:=by
 have HF:Hid (FrV W0 S B gF tv w sv kv s):=h
 have HLY:Hid (LayAt w):=hla
 have HOK:Hid (∀f∈pfl k n,f.1<24∧PuOkF s.ts.length f.1 f.2):=hok
 obtain⟨R,hR⟩:∃R,putAll (pfl k n) s.ts=R:=⟨_,rfl⟩
 have HR:Hid (putAll (pfl k n) s.ts=R):=hR
 rw[hR]
 have HIX:Hid (∀(m:Nat) (f:Nat × Int),(pfl k n)[m]?=some f→∀w,(Instr.index 234 (F8 k n) (.int .i64 m)).run Tryz.prog w=.ok (.agg #[.int .i64 f.1,.int .i64 f.2]) w):=fun m f hf w=>idx4_at h0 h1 hf w
 have HK:Hid (n.op=k):=hop
 clear h hla hok hR hop
 go_enter Tryz.func68,Tryz.ntmps68
 go_wp2_with fail
 refine (fieldsof_any n k _ HK.out h1 (HLY.out.later (bw1 _ _))).mono ?_
 rintro e w1 ⟨rfl,hx⟩
 have HF1:Hid (FrV W0 S B gF tv w1 sv kv s):=(HF.out.later (bw1 _ _)).later hx
 clear hx
 obtain⟨F,hF⟩:∃F,F8 k n=F:=⟨_,rfl⟩
 rw[hF]at HIX ⊢
 clear hF HF
 go_wp2_with fail
 go_loopw [10] (fun i wr=>∃(m:Nat) (ts':List Int),m≤4∧i=.int .i64 m∧Hid (FrV W0 S B gF tv wr sv kv ⟨ts',s.taken,s.stay⟩)∧Hid (putAll ((pfl k n).drop m) ts'=R)∧Hid (ts'.length=s.ts.length)) (fun i _=>4-(intOf i).toNat)
 case atStart=>exact⟨0,s.ts,by omega,rfl,HF1,HR,rfl⟩
 case round =>
  clear HF1 HR
  obtain⟨wo,hwo⟩:∃wo,wo=wr:=⟨wr,rfl⟩
  subst hwo
  obtain⟨m,ts',hm,rfl,HI,HR,HT⟩:=hrel
  by_cases k1:m<4
  ·obtain⟨f,hf⟩:∃f,(pfl k n)[m]?=some f:=⟨(pfl k n)[m]'(by simp[pfl];exact k1),by simp⟩
   have hix:=HIX.out m f hf
   have HO:Hid (f.1<24∧PuOkF ts'.length f.1 f.2):=by show _∧_;rw[HT.out];exact HOK.out f (List.mem_of_getElem? hf)
   have HRm:Hid _:=putAll_at hf HR.out
   obtain⟨fr,fx⟩:=f
   dsimp only at hix HO HRm
   obtain⟨L,hL⟩:∃L,givenV fr=L:=⟨_,rfl⟩
   have HLL:Hid (givenV fr=L):=hL
   clear hf hL HR
   obtain⟨X,hX⟩:∃X,fx.toNat=X:=⟨_,rfl⟩
   have HXx:Hid (L≠[]→fx=X∧X+L.length≤ts'.length):=by
    intro hne
    have:=HO.out.2
    unfold PuOkF at this
    rw[HLL.out]at this
    have:=this hne
    omega
   have HLN:Hid (L.length≤2):=by show _≤_;rw[←HLL.out];exact given_len fr
   rw[hX,HLL.out]at HRm
   clear hX
   have hrlt:=blk_lt HI.out.blk
   have HOWN:Hid (∀g∈(gF :: (tv.ownBlock.toList++sv.ownBlock.toList++kv.ownBlock.toList)),(g∈S∨W0.heap.size≤g)∧g<wo.heap.size):=HI.out.own
   have HBASE:Hid (B≤W0.heap.size):=HI.out.base
   go_wp2_with fail
   refine (given_any fr _ HO.out.1).mono ?_
   rw[HLL.out]
   rintro e w2 ⟨⟨a,c,rfl,hsl,hfr⟩,hb⟩
   have HI2:Hid (FrV W0 S B gF tv w2 sv kv ⟨ts',s.taken,s.stay⟩):=(HI.out.later (bw1 _ _)).later hb
   have X2:Hid (w2.heap[wo.heap.size]?=some (FdO fr fx)):=blk_later hb (blk_new _ _)
   have HSL:Hid (SlA w2 1 intC a L):=hsl
   have HFR:Hid (∀b off,a=some ⟨b,off,none⟩→wo.heap.size<b):=by
    intro b off e
    rcases hfr with q | q
    ·rw[e]at q;cases q
    ·rw[e]at q;cases q;simp
   have HA:Hid (FrV w2 (gF :: (tv.ownBlock.toList++sv.ownBlock.toList++kv.ownBlock.toList)) B gF tv w2 sv kv ⟨ts',s.taken,s.stay⟩):=HI2.out.anew
   clear hb hsl hfr HI hix
   go_wp2_with fail
   go_loopw [17] (fun i wi=>∃(j:Nat) (ts2:List Int),j≤L.length∧i=.int .i64 j∧Hid (FrV w2 (gF :: (tv.ownBlock.toList++sv.ownBlock.toList++kv.ownBlock.toList)) B gF tv wi sv kv ⟨ts2,s.taken,s.stay⟩)∧Hid (putL (X+j) (L.drop j) ts2=putL X L ts')∧Hid (ts2.length=ts'.length)) (fun i _=>L.length-(intOf i).toNat)
   case atStart=>exact⟨0,ts',Nat.zero_le _,rfl,HA,rfl,rfl⟩
   case round =>
    clear HA
    obtain⟨j,ts2,hj,rfl,HJ,HP,HT2⟩:=hrel
    have hNF:wo.heap.size∉(gF :: (tv.ownBlock.toList++sv.ownBlock.toList++kv.ownBlock.toList)):=fun hq=>by have:=(HOWN.out _ hq).2;omega
    have X3:=HJ.out.but.blk X2.out hNF
    by_cases k2:j<L.length
    ·obtain⟨t,ht⟩:∃t,L[j]?=some t:=⟨L[j],by simp⟩
     obtain⟨rfl,hXl⟩:=HXx.out (by rintro rfl;simp at k2)
     obtain⟨b,off,rfl,hbl,hc⟩:=HSL.out j t ht
     have hbS:b∉(gF :: (tv.ownBlock.toList++sv.ownBlock.toList++kv.ownBlock.toList)):=fun hq=>by have:=(HOWN.out _ hq).2;have:=HFR.out b off rfl;omega
     have c0:wr.cell? ⟨b,off+j,none⟩=some (.int .i64 t):=HJ.out.but.cell hbS (by have:=hc 0 _ rfl;simpa using this)
     have HPm:Hid _:=putL_at ht HP.out
     have htl:ts2.length=ts'.length:=HT2.out
     have htl2:ts2.length=s.ts.length:=by rw[HT2.out,HT.out]
     obtain⟨g,cap,rfl⟩:=HJ.out.ty.open' (by show 0<ts2.length;omega)
     obtain⟨f0,f1,f2⟩:=HJ.out.cells
     have n0:wr.cell? ⟨wo.heap.size,1,none⟩=some (.int .i64 (X:Int)):=by rw[blk_cell X3];rfl
     have qz:=HJ.out.ty.froz
     have hbd:X+j<ts2.length:=by omega
     obtain⟨z,hz⟩:∃z,ts2[X+j]?=some z:=⟨ts2[X+j],by simp⟩
     have cz:=HJ.out.ty.cell hz
     have HJ2:Hid _:=HJ.out.set (X+j) t hbd
     have hwr:IntKind.i64.wrap ((X:Int)+(j:Int))=(X:Int)+(j:Int):=by rw[IntKind.wrap_i64];omega
     have HTn:Hid ((ts2.set (X+j) t).length=ts'.length):=by show _=_;rw[List.length_set];exact htl
     clear hc ht hz X3 HP HXx hbS hNF HOWN
     go_wp2_with fail
     go_region
     all_goals
      go_wp2_with fail
      go_roundw
      case rel=>exact⟨j+1,_,by omega,by go_num,HJ2.out.drewN 1,HPm,HTn⟩
      case measure=>simp[intOf];omega
    ·have e:j=L.length:=by omega
     have HPn:Hid (ts2=putL X L ts'):=by show _=_;have:=HP.out;rw[e,List.drop_of_length_le (Nat.le_refl _)]at this;exact this
     have HRn:Hid (putAll ((pfl k n).drop (m+1)) ts2=R):=by show _=_;rw[HPn.out];exact HRm.out
     have HTn:Hid (ts2.length=s.ts.length):=by show _=_;rw[HT2.out,HT.out]
     have HB:Hid (FrV W0 S B gF tv wr sv kv ⟨ts2,s.taken,s.stay⟩):=HJ.out.back HBASE.out HI2.out.but (fun q hq=>(HOWN.out q hq).1)
     clear X3 HP HPn HRm
     go_wp2_with fail
     go_roundw
     case rel=>exact⟨m+1,ts2,by omega,by go_num,HB,HRn,HTn⟩
     case measure=>simp[intOf];omega
  ·have e:m=4:=by omega
   have HRn:Hid (ts'=R):=by show _=_;have:=HR.out;rw[e]at this;exact this
   clear HR
   go_wp2_with fail
   refine bodyPost_end (v:=.tuple #[]) (by simp[results,Tryz.results68,go_sem]) rfl ⟨rfl,?_⟩
   rw[←HRn.out]
   exact HI.out
theorem OI.elsew {w w':World} {B k:Nat} {tv:Value} {ts:List Int} {arr:Array Value} (h:OI w B tv ts) (hk:w.heap[k]?=some (.cells arr 118)) (hb:ButL [k] w w'):OI w' B tv ts :=
 ORow.butn h hb fun g e hm=>by
  simp at hm
  subst hm
  exact h.not_blk hk (by decide) e
theorem GA.elsew {w w':World} {k:Nat} {gv:Value} {gs:List GD} {arr:Array Value} (h:GA w gv gs) (hk:w.heap[k]?=some (.cells arr 118)) (hb:ButL [k] w w'):GA w' gv gs :=
 h.butl hb fun g hg cur e=>by
  simp at hg
  subst hg
  rw[hk]at e
  injection e with e
  injection e with _ e2
  exact absurd e2 (by decide)
theorem WlV.elsew {B gW gS nI p k:Nat} {cv iv:Value} {w w':World} {zs:List SR} {hv:Value} {due:List Bool} {arr:Array Value} (h:WlV B gW gS nI p cv iv w zs hv due) (hk:w.heap[k]?=some (.cells arr 118)) (hne:gS≠k) (hb:ButL [k] w w'):WlV B gW gS nI p cv iv w' zs hv due:=by
 refine h.butl hb ?_ ?_ ?_ ?_
 ·intro hm
  simp at hm
  have h1:=h.blk
  rw[hm,hk]at h1
  injection h1 with h1
  injection h1 with _ h2
  exact absurd h2 (by decide)
 ·simpa using hne
 ·intro g e hm
  simp at hm
  obtain⟨cur,e1⟩:=h.hp.ty e
  rw[hm,hk]at e1
  injection e1 with e1
  injection e1 with _ h2
  exact absurd h2 (by decide)
 ·intro z hz g hg hm
  simp at hm
  rcases hg with hg | hg
  ·obtain⟨cur,e1⟩:=(h.st.ok z hz).tt hg
   rw[hm,hk]at e1
   injection e1 with e1
   injection e1 with _ h2
   exact absurd h2 (by decide)
  ·obtain⟨cur,e1⟩:=(h.st.ok z hz).tg hg
   rw[hm,hk]at e1
   injection e1 with e1
   injection e1 with _ h2
   exact absurd h2 (by decide)
def tgtI (n:ID):Int:=if n.op=19∨n.op=31 then n.a else if n.op=20∨n.op=21∨n.op=38∨n.op=39∨n.op=41 then n.b else -1
theorem lay_tgt:∀k:Fin 43,1≤k.val→((k.val=19∨k.val=31)∧li k.val 0=6)∨((k.val=20∨k.val=21∨k.val=38∨k.val=39∨k.val=41)∧(li k.val 0 == 6)=false∧li k.val 1=6)∨(¬(k.val=19∨k.val=31)∧¬(k.val=20∨k.val=21∨k.val=38∨k.val=39∨k.val=41)∧(li k.val 0 == 6)=false∧(li k.val 1 == 6)=false∧(li k.val 2 == 6)=false∧(li k.val 3 == 6)=false):=by decide +kernel
theorem target_any (n:ID) (w:World) (h0:1≤n.op) (h1:n.op≤42) (hl:LayAt w) :
  Calls Tryz.prog 153 #[IV n] w fun e w'=>e=.returned (.int .i64 (tgtI n))∧Below w.heap.size w w':=by
 obtain⟨k,hk⟩:∃k:Nat,n.op=k:=⟨n.op.toNat,by omega⟩
 have hk1:k<43:=by omega
 have hlay:=lay_tgt ⟨k,hk1⟩ (by show 1≤k;omega)
 simp only at hlay
 have HK:Hid (n.op=k):=hk
 have HLY:Hid (LayAt w):=hl
 have i0:=idx4_0
 have i1:=idx4_1
 have i2:=idx4_2
 have i3:=idx4_3
 obtain⟨q0,e0⟩:∃q,li k 0=q:=⟨_,rfl⟩
 obtain⟨q1,e1⟩:∃q,li k 1=q:=⟨_,rfl⟩
 obtain⟨q2,e2⟩:∃q,li k 2=q:=⟨_,rfl⟩
 obtain⟨q3,e3⟩:∃q,li k 3=q:=⟨_,rfl⟩
 rw[e0,e1,e2,e3]at hlay
 rcases hlay with ⟨hop,rfl⟩ | ⟨hop,f0,rfl⟩ | ⟨hop,hop2,f0,f1,f2,f3⟩
 ·have HT:Hid (tgtI n=n.a):=by show tgtI n=_;unfold tgtI;rw[if_pos (by rw[hk];omega)]
  clear hop hk hl
  go_enter Tryz.func153,Tryz.ntmps153
  go_wp2_with fail
  refine (fieldsof_any n k _ HK.out hk1 (HLY.out.later (bw1 _ _))).mono ?_
  simp only[F8,e0,e1,e2,e3]
  rintro e w1 ⟨rfl,hx⟩
  have HB:Hid (Below w.heap.size w w1):=(bw1 _ _).trans (hx.mono (by simp))
  clear hx e0 e1 e2 e3
  go_wp2_with fail
  refine wp_loop_rounds 1 ?_
  rw[rounds_succ]
  go_wp2_with fail
  go_ret
  exact⟨by rw[HT.out];rfl,below_alloc HB.out _⟩
 ·have HT:Hid (tgtI n=n.b):=by show tgtI n=_;unfold tgtI;rw[if_neg (by rw[hk];omega),if_pos (by rw[hk];omega)]
  clear hop hk hl
  go_enter Tryz.func153,Tryz.ntmps153
  go_wp2_with fail
  refine (fieldsof_any n k _ HK.out hk1 (HLY.out.later (bw1 _ _))).mono ?_
  simp only[F8,e0,e1,e2,e3]
  rintro e w1 ⟨rfl,hx⟩
  have HB:Hid (Below w.heap.size w w1):=(bw1 _ _).trans (hx.mono (by simp))
  clear hx e0 e1 e2 e3
  go_wp2_with fail
  refine wp_loop_rounds 2 ?_
  rw[rounds_succ]
  go_wp2_with fail
  rw[rounds_succ]
  go_wp2_with fail
  go_ret
  exact⟨by rw[HT.out];rfl,below_alloc (below_alloc HB.out _) _⟩
 ·have HT:Hid (tgtI n=-1):=by show tgtI n=_;unfold tgtI;rw[if_neg (by rw[hk];omega),if_neg (by rw[hk];omega)]
  clear hop hop2 hk hl
  go_enter Tryz.func153,Tryz.ntmps153
  go_wp2_with fail
  refine (fieldsof_any n k _ HK.out hk1 (HLY.out.later (bw1 _ _))).mono ?_
  simp only[F8,e0,e1,e2,e3]
  rintro e w1 ⟨rfl,hx⟩
  have HB:Hid (Below w.heap.size w w1):=(bw1 _ _).trans (hx.mono (by simp))
  clear hx e0 e1 e2 e3
  go_wp2_with fail
  refine wp_loop_rounds 5 ?_
  rw[rounds_succ]
  go_wp2_with fail
  rw[rounds_succ]
  go_wp2_with fail
  rw[rounds_succ]
  go_wp2_with fail
  rw[rounds_succ]
  go_wp2_with fail
  rw[rounds_succ]
  go_wp2_with fail
  go_ret
  exact⟨by rw[HT.out];rfl,below_alloc (below_alloc (below_alloc (below_alloc HB.out _) _) _) _⟩
end Go.Proofs.YtjglgbepobmjhaaGreatDoor
