import Derived.Deep.CutRange
import Derived.Test.YtfejmalmnjmanaaGreatDoorS06
import Derived.Test.YtfejmalmnjmanaaGreatDoorS05
import Derived.Test.YtfejmalmnjmanaaGreatDoorS04
import Derived.Test.YtfejmalmnjmanaaGreatDoorS02
import Derived.Test.YtfejmalmnjmanaaGreatDoorS01
import Derived.Test.YtfejmalmnjmanaaGreatDoorRows
import Derived.WalkKit
import Derived.WalkSpells
import Derived.WalkLawsBesides
import Derived.ProofKit
import Derived.OpenShut
import Derived.Below
import Derived.Laws.FloatArith
import Derived.Test.YtfejmalmnjmanaaGreatDoorS03
import Derived.Deep.RegionWith
import Derived.Deep.QuietTactic
import Derived.BigQuiet
import Derived.Deep.Slices
import Derived.Deep.Strs
import Derived.DataShut
import Derived.ChangeSame
import Derived.Test.YtfejmalmnjmanaaGreatDoorB03
import Derived.Test.YtfejmalmnjmanaaGreatDoorTie
import Derived.Test.YtfejmalmnjmanaaGreatDoorCards
import Derived.OpenVars
import Derived.LaidHandle
import Derived.LaidLaws
import Derived.SevenTiedAt
import Derived.FnData
set_option linter.unusedVariables false
set_option linter.unusedSimpArgs false
set_option maxRecDepth 20000
set_option maxHeartbeats 8000000
namespace Go.Proofs.YtfejmalmnjmanaaGreatDoor.lawStates
open Go.ChangeShapes Go.WideShapes Go.ChangeAt Go.RowKit
attribute [local go_sem] run_store_float
theorem szL_mem:∀ {xs:List FC}{x:FC},x∈xs→szF x.d≤szL xs
 | y::ys,x,h=>by
  have hc:szL (y::ys)=szF y.d+szL ys:=by simp[szL]
  rcases List.mem_cons.1 h with rfl|h
  ·omega
  ·have:=szL_mem h;omega
theorem szL_ins:∀ xs:List FC,(xs.map fun x=>x.d.ins.length).sum≤szL xs
 | []=>by simp[szL]
 | y::ys=>by
  have hc:szL (y::ys)=szF y.d+szL ys:=by simp[szL]
  have:=szL_ins ys
  rw[List.map_cons,List.sum_cons,hc]
  have:y.d.ins.length≤szF y.d:=by unfold szF;omega
  omega
theorem ok_of {f:FD} (h:f.raw) (hs:szF f≤1048576):f.ok:=by
 unfold szF at hs
 exact ⟨h.name,by omega,by omega,by omega,by omega,h.c,h.n⟩
theorem code_raw {w:World}{a:Option Addr}{xs:List FC} (hp:SlA w 9 FC.cells a xs) (hx:∀ x∈xs,x.lie w∧x.d.raw) (hs:xs.length+szL xs≤1048576):CodeAt w a xs :=
 ⟨hp,fun x h=>(hx x h).1,fun x h=>ok_of (hx x h).2 (by have:=szL_mem h;omega),by omega,by have:=szL_ins xs;omega⟩
theorem fr_blk {w w':World}{lo g:Nat}{o:Obj} (hf:Fr lo w w') (h:w.heap[g]?=some o) (hg:g<lo):w'.heap[g]?=some o:=(hf.block g (blk_lt h) (.inl hg)).trans h
theorem fr_below {w w1 w2:World}{lo C:Nat} (hb:Below C w w1) (hC:C≤w.heap.size) (hf:Fr lo w1 w2) (hlo:C≤lo):Below C w w2 :=
 hb.trans ⟨hf.os,hf.tape,hf.output,hf.size,fun j hj=>hf.block j (by have:=hb.size;omega) (.inl (by omega))⟩
set_option maxHeartbeats 16000000 in
theorem walk (a:Option Addr) (cap:Nat) (xs:List FC) (q:Int) (w:World) (hp:SlA w 9 FC.cells a xs) (hxs:∀ x∈xs,x.lie w∧x.d.raw) (hlm:xs.length≤maxLen) (hlay:LayAt w) :
  Calls Tryz.prog 4 #[.agg #[.slice a xs.length cap],.int .i64 q] w fun e w'=>e=.returned (.bool true)∧Below w.heap.size w w':=by
 have HP:Hid (SlA w 9 FC.cells a xs):=hp
 have HX:Hid (∀ x∈xs,x.lie w∧x.d.raw):=hxs
 have HLY:Hid (LayAt w):=hlay
 clear hp hxs hlay
 go_enter Tryz.func4,Tryz.ntmps4
 go_wp2_with fail
 refine (szc_any a xs.length cap xs 1048576 _ rfl (HP.out.later (bw1 _ _)) (fun x hx=>(HX.out x hx).1.later (bw1 _ _)) (fun x hx=>(HX.out x hx).2) hlm (by omega) (by omega)).mono ?_
 rintro e w1 ⟨⟨r,rfl,hr⟩,hx⟩
 have B0:Hid (w1.heap[w.heap.size]?=some (.cells #[.slice a xs.length cap] 24)):=qBz hx (qKz _ _)
 have hb:Below w.heap.size w w1:=(bw1 _ _).trans (hx.mono (by simp))
 clear hx
 rcases hr with rfl|⟨hr0,hr1⟩
 ·go_wp2_with fail
  go_ret
  exact ⟨rfl,hb⟩
 have H:Hid (CodeAt w a xs):=code_raw HP.out HX.out (by omega)
 have hlen2:xs.length≤1048576:=by omega
 clear hr1
 obtain ⟨len,hlen⟩:∃ len,len=xs.length:=⟨_,rfl⟩
 have HL:Hid (xs.length=len):=hlen.symm
 rw[←hlen] at B0 hlen2 ⊢
 clear hlm hlen
 have a0:w1.cell? ⟨w.heap.size,0,none⟩=some (.slice a len cap):=by rw[qAz B0.out];rfl
 go_wp2_with fail
 refine (toc_any a len cap xs _ (H.out.later hb) HL.out).mono ?_
 rintro e w2 ⟨⟨g1,ys,rfl,hd1,hC1⟩,hx⟩
 have HC1:Hid (CodeAt w2 (some ⟨g1,0,none⟩) ys):=hC1
 have HD1:Hid (ys.map FC.d=xs.map FC.d):=hd1
 have HYL:Hid (ys.length=len):=by have h:=congrArg List.length hd1;simp only[List.length_map] at h;rw[HL.out] at h;exact h
 replace hb:=hb.trans (hx.mono hb.size)
 replace B0:Hid _:=qBz hx B0.out
 clear hx hd1 hC1 a0
 go_wp2_with fail
 refine (sst_any (some ⟨g1,0,none⟩) len len ys (xs.map FC.d) q _ HC1.out HYL.out HD1.out).mono ?_
 rintro e w3 ⟨⟨T,s0,hT,rfl,hr0⟩,hx⟩
 have HT:Hid (StQ (xs.map FC.d) q T):=hT
 have HR0:Hid (AnsV w3 w2.heap.size w3.heap.size s0 T):=hr0
 replace hb:=hb.trans (hx.mono hb.size)
 replace B0:Hid _:=qBz hx B0.out
 clear hx HC1 HD1 HYL hr0 hT
 have a0:w3.cell? ⟨w.heap.size,0,none⟩=some (.slice a len cap):=by rw[qAz B0.out];rfl
 go_wp2_with fail
 refine (toc_own a len cap xs _ (H.out.later hb) HL.out).mono ?_
 rintro e w4 ⟨⟨g2,zs,rfl,hd2,hC2,hg2,hRG,hOW⟩,hx⟩
 have HC2:Hid (CodeAt w4 (some ⟨g2,0,none⟩) zs):=hC2
 have HD2:Hid (zs.map FC.d=xs.map FC.d):=hd2
 have HZL:Hid (zs.length=len):=by have h:=congrArg List.length hd2;simp only[List.length_map] at h;rw[HL.out] at h;exact h
 have HPR:Hid (PR w4 g2 len zs):=PR.of hRG hOW HZL.out
 have hb34:w3.heap.size≤w4.heap.size:=hx.size
 have hb2:w.heap.size≤g2:=Nat.le_trans hb.size hg2
 replace HR0:Hid (AnsV w4 w2.heap.size w3.heap.size s0 T):=HR0.out.later hx
 replace hb:=hb.trans (hx.mono hb.size)
 replace B0:Hid _:=qBz hx B0.out
 have hg0:w.heap.size<g2:=Nat.lt_of_lt_of_le (World.block_lt_of_cell? _ _ a0) hg2
 have hg4:g2<w4.heap.size:=HPR.out.lt
 clear hx hd2 hC2 a0 hg2 hRG hOW
 have hy:=bw1 w4 (CO (.slice (some ⟨g2,0,none⟩) len len))
 have hb4:=hb.trans (hy.mono hb.size)
 obtain ⟨C,hC⟩:∃ C,C=(w4.alloc (CO (.slice (some ⟨g2,0,none⟩) len len))).heap.size:=⟨_,rfl⟩
 have hCw:w4.heap.size≤C:=by rw[hC];exact hy.size
 obtain ⟨C0,hC0⟩:∃ C0,C0=w3.heap.size:=⟨_,rfl⟩
 have HC0:Hid (C0≤C):=by show C0≤C;omega
 rw[←hC0] at HR0
 clear hC0 hb34
 go_wp2_with fail
 refine (ist_any (some ⟨g2,0,none⟩) len len zs (xs.map FC.d) q T _ (HC2.out.later hy) HZL.out HD2.out (HLY.out.later hb4) HT.out).mono ?_
 rintro e w5 ⟨⟨s1,rfl,hr1⟩,hx⟩
 rw[←hC] at hr1
 have hC5:C≤w5.heap.size:=by rw[hC];exact hx.size
 have HR1:Hid (AnsV w5 C w5.heap.size s1 T):=hr1
 replace HR0:Hid (AnsV w5 w2.heap.size C0 s0 T):=(HR0.out.later hy).later hx
 obtain ⟨gx,hgx⟩:∃ gx,gx=w4.heap.size:=⟨_,rfl⟩
 have BX:Hid (w5.heap[gx]?=some (CO (.slice (some ⟨g2,0,none⟩) len len))):=qBz hx (qNz hgx.symm _)
 rw[←hgx]
 replace B0:Hid _:=qBz hx (qBz hy B0.out)
 replace HC2:Hid (CodeAt w5 (some ⟨g2,0,none⟩) zs):=(HC2.out.later hy).later hx
 replace HPR:Hid (PR w5 g2 len zs):=(HPR.out.later hy).later hx
 replace hb:=hb4.trans (hx.mono hb4.size)
 clear hx hy hb4 hr1 hC
 rw[←hgx] at hCw hg4
 clear hgx
 obtain ⟨C1,hC1⟩:∃ C1,C1=w5.heap.size:=⟨_,rfl⟩
 rw[←hC1] at HR1
 have HC5:Hid (C≤C1∧C1=w5.heap.size):=⟨by rw[hC1];exact hC5,hC1⟩
 clear hC1 hC5
 go_wp2_with fail
 refine (eqans_any _ _ _ _ s1 s0 T _ HR1.out HR0.out).mono ?_
 rintro e w6 ⟨rfl,hx⟩
 have HC6:Hid (C≤w6.heap.size):=Nat.le_trans HC5.out.1 (Nat.le_trans (Nat.le_of_eq HC5.out.2) hx.size)
 replace HR1:Hid (AnsV w6 C C1 s1 T):=HR1.out.later hx
 replace HR0:Hid (AnsV w6 w2.heap.size C0 s0 T):=HR0.out.later hx
 replace BX:Hid _:=qBz hx BX.out
 replace B0:Hid _:=qBz hx B0.out
 replace HC2:Hid (CodeAt w6 (some ⟨g2,0,none⟩) zs):=HC2.out.later hx
 replace HPR:Hid (PR w6 g2 len zs):=HPR.out.later hx
 replace hb:=hb.trans (hx.mono hb.size)
 clear hx HC5
 have x0:w6.cell? ⟨gx,0,none⟩=some (.slice (some ⟨g2,0,none⟩) len len):=by rw[qAz BX.out];rfl
 have a0:w6.cell? ⟨w.heap.size,0,none⟩=some (.slice a len cap):=by rw[qAz B0.out];rfl
 go_wp2_with fail
 go_cut [35] from 31 to 34 (fun s31 wr=>s31=.bool false∧Hid (AnsV wr C C1 s1 T)∧Hid (AnsV wr w2.heap.size C0 s0 T)∧Hid (wr.heap[gx]?=some (CO (.slice (some ⟨g2,0,none⟩) len len)))∧Hid (wr.heap[w.heap.size]?=some (.cells #[.slice a len cap] 24))∧Hid (PR wr g2 len zs)∧Hid (Below w.heap.size w wr)∧Hid (C≤wr.heap.size))
 case first =>
  have HB:Hid (Below w6.heap.size w6 w6):=Below.refl _ _
  go_region_with (first|(go_at_call 7;refine (toc_any a len cap xs _ (H.out.later (hb.trans ((Below.refl _ _).drew))) HL.out).mono ?_;rintro e w7 ⟨⟨g3,us,rfl,hd3,hC3⟩,hx⟩;replace hx:=und1 hx;have HC3:Hid (CodeAt w7 (some ⟨g3,0,none⟩) us):=hC3;have HD3:Hid (us.map FC.d=zs.map FC.d):=hd3.trans HD2.out.symm;replace HC2:Hid (CodeAt w7 (some ⟨g2,0,none⟩) zs):=HC2.out.later hx;replace x0:=cell_later hx x0;replace HB:Hid (Below w6.heap.size w6 w7):=HB.out.trans (hx.mono HB.out.size);clear hx hC3 hd3)|(go_at_call 10;refine (eqc_any (some ⟨g2,0,none⟩) (some ⟨g3,0,none⟩) len len len zs us _ HZL.out HC2.out HC3.out HD3.out).mono ?_;rintro e w8 ⟨rfl,hx⟩;replace HB:Hid (Below w6.heap.size w6 w8):=HB.out.trans (hx.mono HB.out.size);clear hx))
  all_goals
   go_wp2_with fail
   go_meet
   exact ⟨rfl,HR1.out.later HB.out,HR0.out.later HB.out,qBz HB.out BX.out,qBz HB.out B0.out,HPR.out.later HB.out,hb.trans (HB.out.mono hb.size),Nat.le_trans HC6.out HB.out.size⟩
 case rest =>
  have HOK:Hid (∀ y∈zs,y.d.ok):=HC2.out.ok
  clear HR1 HR0 BX B0 HPR hb x0 a0 HC2 HC6
  obtain ⟨rfl,HR1,HR0,BX,B0,HPR,HB,HC6⟩:=hcut
  have x0:wc.cell? ⟨gx,0,none⟩=some (.slice (some ⟨g2,0,none⟩) len len):=by rw[qAz BX.out];rfl
  go_wp2_with fail
  refine (markCode_any g2 len len zs wc HPR.out HZL.out hlen2 HOK.out).mono ?_
  rintro e w9 ⟨⟨k,hk,rfl⟩,hf⟩
  have hk':¬ k<0:=by omega
  replace HR1:Hid (AnsV w9 C C1 s1 T):=HR1.out.fr hf
  replace HR0:Hid (AnsV w9 w2.heap.size C0 s0 T):=HR0.out.fr hf
  replace B0:Hid (w9.heap[w.heap.size]?=some (.cells #[.slice a len cap] 24)):=fr_blk hf B0.out hg0
  replace HB:Hid (Below w.heap.size w w9):=fr_below HB.out (Nat.le_refl _) hf (by omega)
  replace HC6:Hid (C≤w9.heap.size):=Nat.le_trans HC6.out hf.size
  clear hf x0 BX HPR HOK hk
  have hkd:decide (k<0)=false:=by simpa using hk'
  go_wp2_with fail
  refine (eqans_any _ _ _ _ s1 s0 T _ HR1.out HR0.out).mono ?_
  rintro e w10 ⟨rfl,hx⟩
  replace HR1:Hid (AnsV w10 C C1 s1 T):=HR1.out.later hx
  replace HR0:Hid (AnsV w10 w2.heap.size C0 s0 T):=HR0.out.later hx
  replace B0:Hid _:=qBz hx B0.out
  replace HB:Hid (Below w.heap.size w w10):=HB.out.trans (hx.mono HB.out.size)
  replace HC6:Hid (C≤w10.heap.size):=Nat.le_trans HC6.out hx.size
  clear hx
  go_wp2_with fail
  refine (mkv_any C C1 s1 T w10 HR1.out HC6.out).mono ?_
  rintro e w11 ⟨⟨K,hK,rfl,hM⟩,hbm⟩
  have HM:Hid (MkV w11 C s1 K):=hM
  have hKd:decide (K<0)=false:=by simpa using hK
  replace HR0:Hid (AnsV w11 w2.heap.size C0 s0 T):=HR0.out.below HC0.out hbm
  have hCg:w.heap.size<C:=by omega
  replace B0:Hid (w11.heap[w.heap.size]?=some (.cells #[.slice a len cap] 24)):=(hbm.block _ hCg).trans B0.out
  replace HB:Hid (Below w.heap.size w w11):=HB.out.trans (hbm.mono (by omega))
  clear hM hbm HR1 HC6
  go_wp2_with fail
  refine (hdv_any C s1 K w11 HM.out).mono ?_
  rintro e w12 ⟨rfl,hx⟩
  replace HM:Hid (MkV w12 C s1 K):=HM.out.later hx
  replace HR0:Hid (AnsV w12 w2.heap.size C0 s0 T):=HR0.out.later hx
  replace B0:Hid _:=qBz hx B0.out
  replace HB:Hid (Below w.heap.size w w12):=HB.out.trans (hx.mono HB.out.size)
  clear hx
  have a0:w12.cell? ⟨w.heap.size,0,none⟩=some (.slice a len cap):=by rw[qAz B0.out];rfl
  go_wp2_with fail
  refine (toc_any a len cap xs _ (H.out.later HB.out) HL.out).mono ?_
  rintro e w13 ⟨⟨g4,us,rfl,hd4,hC4⟩,hx⟩
  have HC4:Hid (CodeAt w13 (some ⟨g4,0,none⟩) us):=hC4
  have HD4:Hid (us.map FC.d=xs.map FC.d):=hd4
  have HUL:Hid (us.length=len):=by have h:=congrArg List.length hd4;simp only[List.length_map] at h;rw[HL.out] at h;exact h
  replace HM:Hid (MkV w13 C s1 K):=HM.out.later hx
  replace HR0:Hid (AnsV w13 w2.heap.size C0 s0 T):=HR0.out.later hx
  replace HB:Hid (Below w.heap.size w w13):=HB.out.trans (hx.mono HB.out.size)
  clear hx hd4 hC4 a0 B0
  go_wp2_with fail
  refine (ist_any (some ⟨g4,0,none⟩) len len us (xs.map FC.d) q T _ HC4.out HUL.out HD4.out (HLY.out.later HB.out) HT.out).mono ?_
  rintro e w14 ⟨⟨s2,rfl,hr2⟩,hx⟩
  have HR2:Hid (AnsV w14 w13.heap.size w14.heap.size s2 T):=hr2
  replace HM:Hid (MkV w14 C s1 K):=HM.out.later hx
  replace HR0:Hid (AnsV w14 w2.heap.size C0 s0 T):=HR0.out.later hx
  replace HB:Hid (Below w.heap.size w w14):=HB.out.trans (hx.mono HB.out.size)
  clear hx hr2 HC4 HD4 HUL
  go_wp2_with fail
  refine (eqans_any _ _ _ _ s2 s0 T _ HR2.out HR0.out).mono ?_
  rintro e w15 ⟨rfl,hx⟩
  replace HM:Hid (MkV w15 C s1 K):=HM.out.later hx
  replace HB:Hid (Below w.heap.size w w15):=HB.out.trans (hx.mono HB.out.size)
  clear hx HR2 HR0
  go_wp2_with fail
  refine (hdv_any C s1 K w15 HM.out).mono ?_
  rintro e w16 ⟨rfl,hx⟩
  replace HB:Hid (Below w.heap.size w w16):=HB.out.trans (hx.mono HB.out.size)
  clear hx HM
  go_wp2_with fail
  go_ret
  exact ⟨rfl,HB.out⟩
end Go.Proofs.YtfejmalmnjmanaaGreatDoor.lawStates
namespace Go.Proofs.YtfejmalmnjmanaaGreatDoor.lawStates
open Go.ChangeShapes Go.WideShapes Go.ChangeAt Go.RowKit
theorem lt:Tryz.prog.globalNamed "loop.example/punch/impl.layouts"=some 2:=by kernel_rfl
theorem layType:(Tryz.prog.globals[(2:Nat)]?).map (·.type)=some 237:=by kernel_rfl
theorem layIs:(Rows.laid_loop_example_punch_impl_layouts:DataW Unit)=.agg (layT.map fun l=>.agg (l.map fun z=>.lit (.int .i64 z))):=rfl
theorem lay_len:∀ l∈layT,l.length=4:=by decide
theorem lay_of {W:World}{rest:List (String × DataW Unit)} (h:laidMet Tryz.prog (("loop.example/punch/impl.layouts",Rows.laid_loop_example_punch_impl_layouts)::rest) W):LayAt W:=by
 obtain ⟨ps,hv,_⟩:=h
 obtain ⟨g,t,cs,fuel,p,q,h1,h2,h3,h4,h5,h6⟩:=hv
 obtain rfl:=Option.some.inj (lt.symm.trans h1)
 obtain rfl:=Option.some.inj (layType.symm.trans h2)
 have hc:=fun j=>World.var?_cell lt h3 j
 obtain ⟨xs,m,_,hx,hl,hlen,he⟩:=DataW.trod_array Tryz.underlying237 h4
 have k4:Tryz.prog.cellsOf 236=4:=by kernel_rfl
 have k1:Tryz.prog.cellsOf 212=1:=by kernel_rfl
 have hC:Tryz.prog.cellsOf 237=172:=by kernel_rfl
 rw[k4] at he
 rw[hC] at hl
 have hd:layT.map (fun l=>(.agg (l.map fun z=>.lit (.int .i64 z)):DataW Unit))=xs.map (·.1):=by
  have:=congrArg Prod.fst hx
  rw[layIs] at this
  simpa using this
 intro i j hi hj
 obtain ⟨l,hli⟩:∃ l,layT[i]?=some l:=⟨layT[i]'hi,List.getElem?_eq_getElem _⟩
 obtain ⟨y,hy⟩:∃ y,xs[i]?=some y:=⟨xs[i]'(by omega),List.getElem?_eq_getElem _⟩
 have hyl:y.1=.agg (l.map fun z=>.lit (.int .i64 z)):=by
  have:=congrArg (fun a=>a[i]?) hd
  simp only[List.getElem?_map,hli,hy,Option.map_some,Option.some.injEq] at this
  exact this.symm
 have ht:=he i hi
 rw[hy] at ht
 obtain ⟨zs,n,_,hz,hzl,hzn,hf⟩:=DataW.trod_struct Tryz.underlying236 ht
 rw[k4] at hzl
 obtain ⟨z0,z1,z2,z3,hl4⟩:=list4 (lay_len l (List.mem_of_getElem? hli))
 obtain ⟨c0,c1,c2,c3,hcs⟩:=list4 hzl
 obtain ⟨y0,y1,y2,y3,rfl⟩:=list4 hzn
 have hz1:=congrArg Prod.fst hz
 rw[hyl,hl4] at hz1
 simp only[List.map_cons,List.map_nil,DataW.agg.injEq,List.cons.injEq,and_true] at hz1
 obtain ⟨q0,q1,q2,q3⟩:=hz1
 rw[hcs] at hf
 have t0:DataW.trod (fun _=>()) Tryz.prog W 0 (fun _=>true) false n 212 [c0]=some y0:=by simpa [k1] using hf 0 _ rfl
 have t1:DataW.trod (fun _=>()) Tryz.prog W 0 (fun _=>true) false n 212 [c1]=some y1:=by simpa [k1] using hf 1 _ rfl
 have t2:DataW.trod (fun _=>()) Tryz.prog W 0 (fun _=>true) false n 212 [c2]=some y2:=by simpa [k1] using hf 2 _ rfl
 have t3:DataW.trod (fun _=>()) Tryz.prog W 0 (fun _=>true) false n 212 [c3]=some y3:=by simpa [k1] using hf 3 _ rfl
 obtain ⟨v0,e0,x0,_⟩:=DataW.trod_int Tryz.underlying212 t0
 obtain ⟨v1,e1,x1,_⟩:=DataW.trod_int Tryz.underlying212 t1
 obtain ⟨v2,e2,x2,_⟩:=DataW.trod_int Tryz.underlying212 t2
 obtain ⟨v3,e3,x3,_⟩:=DataW.trod_int Tryz.underlying212 t3
 rw[x0] at q0
 rw[x1] at q1
 rw[x2] at q2
 rw[x3] at q3
 simp only[DataW.lit.injEq,Lit.int.injEq,true_and] at q0 q1 q2 q3
 subst q0 q1 q2 q3
 simp only[List.cons.injEq,and_true] at e0 e1 e2 e3
 subst e0 e1 e2 e3
 have hcell:∀ j v,([.int .i64 z0,.int .i64 z1,.int .i64 z2,.int .i64 z3]:List Value)[j]?=some v→W.cell? ⟨2,i*4+j,none⟩=some v:=by
  intro j v hv
  rw[hc,← Array.getElem?_toList]
  have hj4:j<4:=by have:=(List.getElem?_eq_some_iff.1 hv).1;simpa using this
  have:=congrArg (fun a=>a[j]?) hcs
  simp only[List.getElem?_take,List.getElem?_drop,hj4,if_true] at this
  rw[this];exact hv
 have hg:layT.getD i []=l:=by rw[List.getD_eq_getElem?_getD,hli];rfl
 unfold li
 rw[hg,hl4]
 match j,hj with
 | 0,_=>exact hcell 0 _ rfl
 | 1,_=>exact hcell 1 _ rfl
 | 2,_=>exact hcell 2 _ rfl
 | 3,_=>exact hcell 3 _ rfl
theorem own:ownKnob Tryz.prog.godebug=none:=by kernel_rfl
theorem laidOut:laidOutB Tryz.prog=true:=by kernel_rfl
theorem rowed:varsRowed Tryz.prog Rows.fnExactStatesSpec.vars=true:=by kernel_rfl
theorem met_of {W:World} (h:laidMetH Tryz.prog Rows.fnExactStatesRow.laid W):LayAt W:=by
 have h':laidMet Tryz.prog [("loop.example/punch/impl.layouts",Rows.laid_loop_example_punch_impl_layouts)] W:=h
 exact lay_of h'
def putIn (cs:Array Value):Obj→Obj
 | .cells _ t frozen=>.cells cs t frozen
 | o=>o
def laidOf (w:World):World:={ w with heap:=w.heap.modify 2 (putIn (layT.flatMap fun l=>l.map fun z=>Value.int .i64 z).toArray) }
theorem laid_met (os:Os) (args:Array Value):laidMetH Tryz.prog Rows.fnExactStatesRow.laid ((laidOf (World.holding Tryz.prog os ⟨#[],#[],[]⟩)).forCall (fun _ _=>0) ⟨#[],args,[]⟩).memory :=
 laidMetH_of_parts (laidMet_of_run' 8 (by kernel_rfl) (by kernel_rfl)) (by kernel_rfl)
set_option maxRecDepth 100000 in
theorem lifted (os:Os) (started:os.Started) (H:Type) (enc:TypeId × Value→H) :
  ReturnsInHanded {} Tryz.checked os 4 .any (fun w args=>(Rows.fnExactStatesSpec.pre enc Tryz.prog Tryz.f4 [] false w args∧laidMetH Tryz.prog Rows.fnExactStatesRow.laid w)∧sizedMet enc Tryz.prog Tryz.f4 (OpenSpec.ofChange Rows.fnExactStatesSpec) false w args)
   (Rows.fnExactStatesSpec.post enc Tryz.prog Tryz.f4 false true false false):=by
 refine returnsInHanded_of_change_and (C:=Tryz.checked) (X:=fun w _=>laidMetH Tryz.prog Rows.fnExactStatesRow.laid w) (fun _ _ _ hh h=>h.of_heap hh) own started (by kernel_rfl) Tryz.func4
  (ChangeSpec.witness_at (enc:=enc) (C:=Tryz.checked) (os:=os) (X:=fun w _=>laidMetH Tryz.prog Rows.fnExactStatesRow.laid w) false (laidOf (World.holding Tryz.prog os ⟨#[],#[],[]⟩)) #[.agg #[.slice none 0 0],.int .i64 0] 8 rfl (by kernel_rfl) (by kernel_rfl) (by kernel_rfl) (by kernel_rfl) (by kernel_rfl) (laid_met os _)) ?_
 intro W base args ds gs before hval0 hW _ _ hL _
 have hval:∀ (j:Nat) t v,Tryz.f4.params[j]?=some t→args[j]?=some v→Value.okWide Tryz.prog W .any base t v:=hval0
 have hW':=hW
 obtain ⟨p,q,hA0,hV,rfl,hfz,hnd⟩:=hW
 have hA:DataW.TrodAll enc Tryz.prog W 0 (fun _=>true) true Tryz.f4.params.toList args.toList ds p:=hA0
 rw[Tryz.params4] at hA hval
 obtain ⟨v0,vs0,d0,ds0,p0,q0,hargs,rfl,rfl,h0,r0⟩:=trodAll_cons hA
 obtain ⟨v1,vs1,d1,ds1,p1,q1,rfl,rfl,rfl,h1,r1⟩:=trodAll_cons r0
 obtain ⟨rfl,rfl,rfl⟩:=trodAll_nil r1
 obtain rfl:args=#[v0,v1]:=by cases args;simp_all
 have k0:=h0
 have lt0:∀ x∈p0,x.block<W.heap.size:=by obtain ⟨m,hm⟩:=k0;exact DataW.trod_lt m _ _ _ hm
 obtain ⟨a,cap,xs,rfl,hp,hxs,hlm⟩:=open_code (hval 0 24 v0 rfl rfl) h0
 obtain ⟨o1,rfl,rfl,rfl,wo1⟩:=open_int Tryz.underlying3 (hval 1 3 v1 rfl rfl) h1
 obtain ⟨_,_,_,_,_,_,hgs,_⟩:=trodVars_one hV
 subst hgs
 have hlay:=met_of hL
 clear hA0 hval0 hval h0
 refine (walk a cap xs o1 W hp hxs hlm hlay).mono fun e W' ⟨he,bel⟩=>?_
 subst he
 exact ⟨_,rfl,_,_,_,[],_,_,hW',trodAll_mk1 (shut_bool Tryz.underlying4 _),(trodAll_cons_mk (Below.trod laidOut (by kernel_rfl) (of_decide_eq_true (by kernel_rfl)) k0 bel lt0) (trodAll_cons_mk (shut_int Tryz.underlying3 wo1) trodAll_mk0)),Below.trodVars laidOut bel rowed hV,bel.frame _,fun h=>by cases h⟩
theorem over:Rows.fnExactStatesRow.holds Tryz.pinned (OpenSpec.ofChange Rows.fnExactStatesSpec) :=
 OpenClaim.holds_of_wide 4 Tryz.f4 rfl rfl rfl rfl rfl rfl rfl ⟨rfl,rfl,rfl,rfl,rfl⟩ rfl rfl rfl rfl rfl (by kernel_rfl) Tryz.func4 (by kernel_rfl)
  (of_decide_eq_true (by kernel_rfl)) (by unfold Func.isWrapper;first|(rw[if_pos (by decide +kernel)];kernel_rfl)|(rw[if_neg (by decide +kernel)];exact ⟨rfl,rfl⟩))
  (fun os started H enc _=>lifted os started H enc)
end Go.Proofs.YtfejmalmnjmanaaGreatDoor.lawStates
namespace Go.Proofs.YtfejmalmnjmanaaGreatDoor
open Go
theorem states_holds : Rows.FnExactStatesCardSaid :=
 Claim7.holds_tied_plain_at .later [] [.data] true _ true
  lawStates.over (fun _ h=>by cases h) (by kernel_rfl) (fun _ h=>by cases h) fnExactStates_row_tie rfl ⟨rfl,rfl⟩ (by kernel_rfl) rfl
  (fun f fn hf hfn=>by
   obtain rfl:f=4:=Option.some.inj ((show Tryz.prog.funcNamed "loop.example/punch/laws.FnExactStates"=some 4 by kernel_rfl).symm.trans hf) |>.symm
   obtain rfl:fn=Tryz.f4:=(Option.some.inj (Tryz.func4.symm.trans hfn)).symm
   exact ⟨by kernel_rfl,fun j t ht=>by
    rw[Tryz.params4] at ht
    have hm:t∈[(24:Nat),(3:Nat)]:=by simpa using Array.mem_of_getElem? ht
    have hall:([(24:Nat),(3:Nat)].all fun u=>!Tryz.prog.wantsStandIn u)=true:=by kernel_rfl
    exact (show Tryz.prog.wantsStandIn t=false by simpa using List.all_eq_true.1 hall t hm)⟩)
  (by kernel_rfl)
end Go.Proofs.YtfejmalmnjmanaaGreatDoor
