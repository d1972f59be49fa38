import Derived.Test.YtfejmalmnjmanaaGreatDoorS14
import Derived.Test.YtfejmalmnjmanaaGreatDoorS15
import Derived.Test.YtfejmalmnjmanaaGreatDoorS16
import Derived.Test.YtfejmalmnjmanaaGreatDoorS12
import Derived.WalkSpells
import Derived.Test.YtfejmalmnjmanaaGreatDoorS07
set_option linter.unusedVariables false
set_option linter.unusedSimpArgs false
set_option maxRecDepth 20000
set_option maxHeartbeats 8000000
namespace Go.Proofs.YtfejmalmnjmanaaGreatDoor
open Go.RowKit
theorem sil_at {ins:List ID}{E:Nat→List Nat}{nR nI bk off:Nat}{w W:World} (hE:∀ x n,ins[x]?=some n→E x=silS n x) (hn:∀ n∈ins,InsOk nR nI n) (hnI:ins.length=nI) (hI:nI≤6000) (hs:SlA w 5 ID.cells (some ⟨bk,off,none⟩) ins) (hB:Below w.heap.size w W) (x ci:Nat) (hx:x<nI) (name:ByteArray) (line params regs:Int) (rest:Bool) (au ac an:Option Addr) (lu cu lc cc ln cn:Nat) :
  Calls Tryz.prog 65 #[.agg #[.string name,.int .i64 line,.int .i64 params,.bool rest,.int .i64 regs,.slice au lu cu,.slice ac lc cc,.slice (some ⟨bk,off,none⟩) nI ci,.slice an ln cn],.int .i64 x] W fun e w'=>(∃ sv,e=.returned sv∧ORow w' W.heap.size 3 1 natC sv (E x))∧Below W.heap.size W w':=by
 have hxi:x<ins.length:=by omega
 have hx0:ins[x]?=some (ins[x]'hxi):=List.getElem?_eq_getElem hxi
 obtain ⟨b',off',e0,hb,hc⟩:=hs x _ hx0
 cases e0
 rw[hE x _ hx0]
 exact silent_any _ nR nI x bk off ci name line params regs rest au ac an lu cu lc cc ln cn W (hn _ (List.getElem_mem hxi)) hx (by omega) (Nat.lt_of_lt_of_le hb hB.size)
  (cell_later hB (by have:=hc 0 _ rfl;simpa using this)) (cell_later hB (hc 1 _ rfl)) (cell_later hB (hc 2 _ rfl)) (cell_later hB (hc 3 _ rfl)) (cell_later hB (hc 4 _ rfl))
theorem nat_app2 {w:World}{B B':Nat}{tv sv:Value}{xs ys:List Nat} (h:ORow w B 3 1 natC tv xs) (h2:ORow w B' 3 1 natC sv ys) (ha:Apart tv sv) (r:Nat) (hl:xs.length≤1000000) (hB:B≤w.heap.size) :
  ∃ g' cap' w2,(Builtin.append_ #[55,55] 55 #[tv,.slice (some ⟨w.heap.size,0,none⟩) 1 1]).run Tryz.prog (w.alloc (.cells #[.int .i64 (r:Int)] 3))=.ok (.slice (some ⟨g',0,none⟩) (xs.length+1) cap') w2∧Hid (ORow w2 B 3 1 natC (.slice (some ⟨g',0,none⟩) (xs.length+1) cap') (xs++[r]))∧Hid (ORow w2 B' 3 1 natC sv ys)∧Hid (Apart (.slice (some ⟨g',0,none⟩) (xs.length+1) cap') sv)∧Hid (∀ w0,Below w0.heap.size w0 w→w0.heap.size≤B→Below w0.heap.size w0 w2)∧Hid (∀ (g:Nat) (arr:Array Value) (t:TypeId),t≠3→w.heap[g]?=some (.cells arr t)→w2.heap[g]?=some (.cells arr t)):=by
 have hy:=bw1 w (.cells #[.int .i64 (r:Int)] 3)
 have h':=h.later hy
 obtain ⟨g',cap',w2,hr,ho2,hg⟩:=h'.app 55 8 Tryz.underlying55 (by kernel_rfl) (by omega) (by omega) r w.heap.size 55 (qKz _ _) rfl (by intro u hu;simp[natC] at hu;subst hu;rfl) (by omega) (by simp;omega)
 have hw:=app_where 55 3 1 8 Tryz.underlying55 (by kernel_rfl) (by omega) (by omega) B _ tv _ _ (natC r) w.heap.size 55 h' (qKz _ _) rfl (by intro u hu;simp[natC] at hu;subst hu;rfl) (by omega) hr
 refine ⟨g',cap',w2,hr,ho2,(h2.later hy).apart ha.symm hg,?_,fun w0 hb hB0=>below_grown (hb.trans (hy.mono hb.size)) (by have:=hb.size;simp;omega) h' hB0 hg,fun g arr t ht hgc=>?_⟩
 ·intro b hb hs
  cases hb
  rcases hw with hw|hw
  ·exact ha g' hw.symm hs
  ·have h9:g'<w.heap.size:=(h2.own_lt (g:=g') hs).2
   simp at hw
   omega
 ·have hlt:=blk_lt hgc
  rw[hg.block g (by simp;omega) (fun e=>?_)]
  ·exact qIz hgc _
  ·obtain ⟨h1,⟨rfl,h3⟩|⟨g0,c0,cur,rfl,e2,e3,e4⟩⟩:=h
   ·cases e
   ·cases e
    rw[hgc] at e3
    cases e3
    exact ht rfl
theorem ORow.set_other {α:Type}{w:World}{B k g:Nat}{et t:TypeId}{cells:α→List Value}{sv:Value}{xs:List α}{arr:Array Value} (h:ORow w B et k cells sv xs) (hb:w.heap[g]?=some (.cells arr t)) (hne:t≠et) (j:Nat) (v:Value):ORow (w.setCell ⟨g,j,none⟩ v) B et k cells sv xs :=
 h.keep fun i ar _ hi=>Below.heap_setCell _ _ _ _ fun e=>by
  have e':i=g:=e
  subst e'
  rw[hb] at hi
  cases hi
  exact hne rfl
def lenOf:Value→Nat
 | .slice _ n _=>n
 | _=>0
theorem mb_cnt (b:Bool) (l:List Bool):(mb l).toList.countP (isB b)=l.countP (fun c=>b==c):=by
 show List.countP (isB b) (l.map Value.bool)=_
 rw[List.countP_map]
 rfl
theorem cnt_false (l:List Bool) (x:Nat) (h:l[x]?=some false):(l.set x true).countP (fun c=>false==c)+1=l.countP (fun c=>false==c):=by
 have:=countP_set (fun c=>false==c) l x true false h
 simp at this
 simpa using this
set_option maxRecDepth 100000 in
theorem round_any (ins:List ID) (E:Nat→List Nat) (nR nI i0 bk off ci:Nat) (name:ByteArray) (line params regs:Int) (rest:Bool) (au ac an:Option Addr) (lu cu lc cc ln cn:Nat) (w:World) (hE:∀ x n,ins[x]?=some n→E x=silS n x) (hlt:∀ x,x<nI→∀ y∈E x,y<nI) (hn:∀ n∈ins,InsOk nR nI n) (hnI:ins.length=nI) (hi:i0<nI) (hI:nI≤6000) (hbw:bk<w.heap.size) (hs:SlA w 5 ID.cells (some ⟨bk,off,none⟩) ins) :
  Calls Tryz.prog 35 #[.agg #[.string name,.int .i64 line,.int .i64 params,.bool rest,.int .i64 regs,.slice au lu cu,.slice ac lc cc,.slice (some ⟨bk,off,none⟩) nI ci,.slice an ln cn],.int .i64 i0] w fun e w'=>(∃ b,e=.returned (.bool b)∧(b=true ↔ TJ.Cyc E i0))∧Below w.heap.size w w':=by
 have HE:Hid (∀ x n,ins[x]?=some n→E x=silS n x):=hE
 have HLT:Hid (∀ x,x<nI→∀ y∈E x,y<nI):=hlt
 have HN:Hid (∀ n∈ins,InsOk nR nI n):=hn
 have HS:Hid (SlA w 5 ID.cells (some ⟨bk,off,none⟩) ins):=hs
 have HL:Hid (ins.length=nI):=hnI
 clear hE hlt hn hs hnI
 have hmk:=make_bool nI (by omega) (w.alloc (.cells #[.string name,.int .i64 line,.int .i64 params,.bool rest,.int .i64 regs,.slice au lu cu,.slice ac lc cc,.slice (some ⟨bk,off,none⟩) nI ci,.slice an ln cn] 75))
 go_enter Tryz.func35,Tryz.ntmps35
 go_wp2_with (go_at_call 65;refine (sil_at HE.out HN.out HL.out hI HS.out (bw2 _ _ _) i0 ci hi name line params regs rest au ac an lu cu lc cc ln cn).mono ?_;rintro e w1 ⟨⟨sv1,rfl,ho1⟩,hb1⟩)
 have hy2:=bw2 w (.cells #[.string name,.int .i64 line,.int .i64 params,.bool rest,.int .i64 regs,.slice au lu cu,.slice ac lc cc,.slice (some ⟨bk,off,none⟩) nI ci,.slice an ln cn] 75) (.cells (mb (List.replicate nI false)) 4)
 have HBW:Hid (Below w.heap.size w w1):=hy2.trans (hb1.mono hy2.size)
 have HF1:Hid (w1.heap[w.heap.size]?=some (.cells #[.string name,.int .i64 line,.int .i64 params,.bool rest,.int .i64 regs,.slice au lu cu,.slice ac lc cc,.slice (some ⟨bk,off,none⟩) nI ci,.slice an ln cn] 75)):=qBz hb1 (qIz (qKz _ _) _)
 have HM1:Hid (w1.heap[w.heap.size+1]?=some (.cells (mb (List.replicate nI false)) 4)):=qBz hb1 (qNz (by simp) _)
 have HO1:Hid (ORow w1 (w.heap.size+1+1) 3 1 natC sv1 (E i0)):=ho1.mono (by simp)
 have HI0:Hid (Bf E i0 nI (E i0) 0 (List.replicate nI false)):=Bf.begin (HLT.out i0 hi) (by have h0:ins[i0]?=some (ins[i0]'(by have:=HL.out;omega)):=List.getElem?_eq_getElem _;rw[HE.out i0 _ h0];exact silS_len _ _)
 clear ho1 hb1 hy2 hmk
 go_loopw [6,7] (fun o i wr=>∃ (L:List Nat) (m:Nat) (S:List Bool),i=.int .i64 m∧Hid (Bf E i0 nI L m S)∧Hid (Below w.heap.size w wr)∧Hid (ORow wr (w.heap.size+1+1) 3 1 natC o L)∧Hid (wr.heap[w.heap.size]?=some (.cells #[.string name,.int .i64 line,.int .i64 params,.bool rest,.int .i64 regs,.slice au lu cu,.slice ac lc cc,.slice (some ⟨bk,off,none⟩) nI ci,.slice an ln cn] 75))∧Hid (wr.heap[w.heap.size+1]?=some (.cells (mb S) 4))) (fun o i wr=>3*cntB false wr (w.heap.size+1)+(lenOf o-(intOf i).toNat))
 case atStart=>exact ⟨E i0,0,_,rfl,HI0,HBW,HO1,HF1,HM1⟩
 case round =>
  clear HBW HF1 HM1 HO1 HI0
  obtain ⟨L,m,S,rfl,HI,HB,HO,HF,HM⟩:=hrel
  by_cases k1:m<L.length
  ·obtain ⟨x,hx⟩:∃ x,L[m]?=some x:=⟨L[m]'k1,by simp⟩
   obtain ⟨g,cap,rfl,hgB,hcap,hsl,hfz,hglt⟩:=HO.out.open natC_len (by omega)
   obtain ⟨b',off',e0,_,hc⟩:=hsl m x hx
   cases e0
   have c0:wr.cell? ⟨g,m,none⟩=some (.int .i64 (x:Int)):=by have:=hc 0 _ rfl;simpa using this
   have hxn:x<nI:=HI.out.lt x (List.mem_of_getElem? hx)
   have hSl:S.length=nI:=HI.out.len
   have hLb:=HI.out.bound
   have f7:wr.cell? ⟨w.heap.size+1,x,none⟩=some (.bool (S.getD x false)):=by rw[qAz HM.out,mb_get S x (by omega)]
   have ffz:=qGz HM.out x
   have HX:Hid (L[m]?=some x):=hx
   clear hc hsl hx
   by_cases e1:x=i0
   ·subst e1
    have t1:((x:Int)==(x:Int))=true:=by simp
    go_wp2_with fail
    go_ret
    exact ⟨⟨true,rfl,⟨fun _=>HI.out.found HX.out,fun _=>rfl⟩⟩,HB.out⟩
   ·have t1:((x:Int)==(i0:Int))=false:=by simp;omega
    have hgd:S[x]?=some (S.getD x false):=by rw[List.getD_eq_getElem?_getD,List.getElem?_eq_getElem (by omega)];rfl
    cases hS:S.getD x false
    ·rw[hS] at f7 hgd
     have HEx:Hid ((E x).length≤2):=by show (E x).length≤2;have h0:ins[x]?=some (ins[x]'(by have:=HL.out;omega)):=List.getElem?_eq_getElem _;rw[HE.out x _ h0];exact silS_len _ _
     have HI2:Hid (Bf E i0 nI (L++E x) (m+1) (S.set x true)):=HI.out.new HX.out e1 hgd (HLT.out x hxn) HEx.out
     have HCN:Hid ((S.set x true).countP (fun c=>false==c)+1=S.countP (fun c=>false==c)):=cnt_false S x hgd
     obtain ⟨wa,hwa⟩:∃ wa,wa=wr.setCell ⟨w.heap.size+1,x,none⟩ (.bool true):=⟨_,rfl⟩
     have HBa:Hid (Below w.heap.size w wa):=by rw[hwa];exact HB.out.setCell (by simp) _
     have HOa:Hid (ORow wa (w.heap.size+1+1) 3 1 natC (.slice (some ⟨g,0,none⟩) L.length cap) L):=by rw[hwa];exact HO.out.set_other HM.out (by decide) x _
     have HFa:Hid (wa.heap[w.heap.size]?=some (.cells #[.string name,.int .i64 line,.int .i64 params,.bool rest,.int .i64 regs,.slice au lu cu,.slice ac lc cc,.slice (some ⟨bk,off,none⟩) nI ci,.slice an ln cn] 75)):=by rw[hwa];exact qFz HF.out (by omega) _ _
     have HMa:Hid (wa.heap[w.heap.size+1]?=some (.cells (mb (S.set x true)) 4)):=by rw[hwa];have h:=qLz HM.out x (.bool true);rw[mb_set] at h;exact h
     have HSZ:Hid (cntB false wr (w.heap.size+1)=S.countP (fun c=>false==c)):=by show cntB _ _ _=_;rw[cntB_of HM.out,mb_cnt]
     have q0:wr.cell? ⟨w.heap.size,0,none⟩=some (.string name):=by rw[qAz HF.out];rfl
     have q1:wr.cell? ⟨w.heap.size,1,none⟩=some (.int .i64 line):=by rw[qAz HF.out];rfl
     have q2:wr.cell? ⟨w.heap.size,2,none⟩=some (.int .i64 params):=by rw[qAz HF.out];rfl
     have q3:wr.cell? ⟨w.heap.size,3,none⟩=some (.bool rest):=by rw[qAz HF.out];rfl
     have q4:wr.cell? ⟨w.heap.size,4,none⟩=some (.int .i64 regs):=by rw[qAz HF.out];rfl
     have q5:wr.cell? ⟨w.heap.size,5,none⟩=some (.slice au lu cu):=by rw[qAz HF.out];rfl
     have q6:wr.cell? ⟨w.heap.size,6,none⟩=some (.slice ac lc cc):=by rw[qAz HF.out];rfl
     have q7:wr.cell? ⟨w.heap.size,7,none⟩=some (.slice (some ⟨bk,off,none⟩) nI ci):=by rw[qAz HF.out];rfl
     have q8:wr.cell? ⟨w.heap.size,8,none⟩=some (.slice an ln cn):=by rw[qAz HF.out];rfl
     go_wp2_with (go_at_call 65;rw[←hwa];clear hwa;refine (sil_at HE.out HN.out HL.out hI HS.out HBa.out x ci hxn name line params regs rest au ac an lu cu lc cc ln cn).mono ?_;rintro e w1 ⟨⟨sv1,rfl,ho1⟩,hb1⟩;obtain ⟨a2,c2,rfl⟩:=ho1.val;obtain ⟨nE,hnE⟩:∃ nE,(E x).length=nE:=⟨_,rfl⟩;rw[hnE] at ho1 ⊢)
     have HNE:Hid ((E x).length=nE):=hnE
     have hnE2:nE≤2:=by have:=HEx.out;omega
     have HBb:Hid (Below w.heap.size w w1):=HBa.out.trans (hb1.mono HBa.out.size)
     have HFb:Hid (w1.heap[w.heap.size]?=some (.cells #[.string name,.int .i64 line,.int .i64 params,.bool rest,.int .i64 regs,.slice au lu cu,.slice ac lc cc,.slice (some ⟨bk,off,none⟩) nI ci,.slice an ln cn] 75)):=qBz hb1 HFa.out
     have HMb:Hid (w1.heap[w.heap.size+1]?=some (.cells (mb (S.set x true)) 4)):=qBz hb1 HMa.out
     have HOb:Hid (ORow w1 (w.heap.size+1+1) 3 1 natC (.slice (some ⟨g,0,none⟩) L.length cap) L):=HOa.out.later hb1
     have HEb:Hid (ORow w1 wa.heap.size 3 1 natC (.slice a2 nE c2) (E x)):=ho1
     have HAb:Hid (Apart (.slice (some ⟨g,0,none⟩) L.length cap) (.slice a2 nE c2)):=fun b hb hs=>by
      have h1:=(HOa.out.own_lt hb).2
      have h2:=(ho1.own_lt hs).1
      omega
     have hwsz:w.heap.size+1+1≤w1.heap.size:=by have h1:=HOb.out.own_lt (g:=g) rfl;omega
     clear ho1 hb1 hnE q0 q1 q2 q3 q4 q5 q6 q7 q8 HBa HOa HFa HMa HB HO HF HM HI hfz f7 ffz c0
     go_loopw [6,43] (fun o i wi=>∃ (k:Nat),k≤nE∧i=.int .i64 k∧Hid (Below w.heap.size w wi)∧Hid (ORow wi (w.heap.size+1+1) 3 1 natC o (L++(E x).take k))∧Hid (ORow wi wa.heap.size 3 1 natC (.slice a2 nE c2) (E x))∧Hid (Apart o (.slice a2 nE c2))∧Hid (wi.heap[w.heap.size]?=some (.cells #[.string name,.int .i64 line,.int .i64 params,.bool rest,.int .i64 regs,.slice au lu cu,.slice ac lc cc,.slice (some ⟨bk,off,none⟩) nI ci,.slice an ln cn] 75))∧Hid (wi.heap[w.heap.size+1]?=some (.cells (mb (S.set x true)) 4))∧w.heap.size+1+1≤wi.heap.size) (fun _ i _=>nE-(intOf i).toNat)
     case atStart=>exact ⟨0,Nat.zero_le _,rfl,HBb,by simpa using HOb,HEb,HAb,HFb,HMb,hwsz⟩
     case round =>
      clear HBb HFb HMb HOb HEb HAb hwsz
      obtain ⟨k,hk,rfl,HB,HO,HEr,HA,HF,HM,hsz⟩:=hrel
      by_cases k2:k<nE
      ·obtain ⟨y,hy⟩:∃ y,(E x)[k]?=some y:=⟨(E x)[k]'(by rw[HNE.out];exact k2),by simp⟩
       obtain ⟨g2,cap2,e2,_,_,hsl,_,hglt2⟩:=HEr.out.open natC_len (by rw[HNE.out];omega)
       simp only[Value.slice.injEq] at e2
       obtain ⟨rfl,-,rfl⟩:=e2
       obtain ⟨b',off',e0,_,hc⟩:=hsl k y hy
       cases e0
       have c1:wr.cell? ⟨g2,k,none⟩=some (.int .i64 (y:Int)):=by have:=hc 0 _ rfl;simpa using this
       have HT:Hid (L++(E x).take (k+1)=(L++(E x).take k)++[y]):=by show _=_;rw[List.take_add_one,hy];simp
       have hll:(L++(E x).take k).length=L.length+k:=by rw[List.length_append,List.length_take,HNE.out];omega
       obtain ⟨g',cap',w2,hr,ho2,he2,ha2,hB2,hK2⟩:=nat_app2 HO.out HEr.out HA.out y (by rw[hll];omega) hsz
       have HB3:Hid (Below w.heap.size w w2):=hB2.out _ HB.out (by omega)
       have hsz2:w.heap.size+1+1≤w2.heap.size:=by have:=ho2.out.own_lt (g:=g') rfl;omega
       rw[hll] at hr ho2 ha2
       have HR:Hid _:=hr
       clear hc hsl hy hr
       go_wp2_with (at_builtin;refine qEz rfl _ _ _ rfl _ _ _ _ rfl rfl HR.out ?_)
       go_roundw
       case rel=>exact ⟨k+1,by omega,by go_num,HB3,by rw[HT.out];exact ho2,he2,ha2,hK2.out _ _ _ (by decide) HF.out,hK2.out _ _ _ (by decide) HM.out,hsz2⟩
       case measure=>simp[intOf];omega
      ·have hke:k=nE:=by omega
       subst hke
       have HO3:Hid (ORow wr (w.heap.size+1+1) 3 1 natC u6 (L++E x)):=by have h:=HO.out;rw[List.take_of_length_le (by rw[HNE.out];omega)] at h;exact h
       have HC3:Hid (cntB false wr (w.heap.size+1)+1=S.countP (fun c=>false==c)):=by show _=_;rw[cntB_of HM.out,mb_cnt];exact HCN.out
       have HLN:Hid (lenOf u6=L.length+(E x).length):=by obtain ⟨a6,c6,e6⟩:=HO3.out.val;show lenOf u6=_;rw[e6];simp[lenOf]
       go_wp2_with fail
       go_roundw
       case rel=>exact ⟨L++E x,m+1,S.set x true,by go_num,HI2,HB,HO3,HF,HM⟩
       case measure=>
        have h1:=HSZ.out
        have h2:=HC3.out
        have h3:=HLN.out
        have h4:=HEx.out
        have h6:((m:Int)+1).toNat=m+1:=by omega
        have h7:((m:Int)).toNat=m:=by omega
        simp only[h3,h1]
        simp only[intOf,lenOf,h6,h7]
        omega
    ·rw[hS] at f7 hgd
     have HI2:Hid (Bf E i0 nI L (m+1) S):=HI.out.old HX.out e1 hgd
     go_wp2_with fail
     go_roundw
     case rel=>exact ⟨L,m+1,S,by go_num,HI2,HB,HO,HF,HM⟩
     case measure=>simp[intOf,lenOf];omega
  ·have hml:m=L.length:=by have:=HI.out.le;omega
   obtain ⟨a,cap,rfl⟩:=HO.out.val
   go_wp2_with fail
   go_ret
   exact ⟨⟨false,rfl,⟨(fun h=>absurd h (by simp)),fun h=>absurd h (Bf.none (hml ▸ HI.out))⟩⟩,HB.out⟩
structure ButL (S:List Nat) (w w':World):Prop where
 os:w'.os=w.os
 tape:w'.tape=w.tape
 output:w'.output=w.output
 size:w.heap.size≤w'.heap.size
 block:∀ k,k<w.heap.size→k ∉ S→w'.heap[k]?=w.heap[k]?
theorem ButL.refl (S:List Nat) (w:World):ButL S w w:=⟨rfl,rfl,rfl,Nat.le_refl _,fun _ _ _=>rfl⟩
theorem ButL.of_below {S:List Nat}{w w':World} (h:Below w.heap.size w w'):ButL S w w':=⟨h.os,h.tape,h.output,h.size,fun k hk _=>h.block k hk⟩
theorem ButL.trans {S:List Nat}{a b c:World} (h:ButL S a b) (h':ButL S b c):ButL S a c :=
 ⟨h'.os.trans h.os,h'.tape.trans h.tape,h'.output.trans h.output,Nat.le_trans h.size h'.size,fun k hk hS=>(h'.block k (Nat.lt_of_lt_of_le hk h.size) hS).trans (h.block k hk hS)⟩
theorem ButL.set {S:List Nat}{w w':World}{g:Nat} (h:ButL S w w') (hg:g∈S) (j:Nat) (v:Value):ButL S w (w'.setCell ⟨g,j,none⟩ v) :=
 ⟨h.os,h.tape,h.output,by simpa using h.size,fun k hk hS=>by rw[Below.heap_setCell _ _ _ _ (fun e=>hS (by rw[show k=g from e];exact hg))];exact h.block k hk hS⟩
theorem ButL.drew {S:List Nat}{w w':World} (h:ButL S w w'):ButL S w w'.drew:=⟨h.os,h.tape,h.output,h.size,h.block⟩
theorem ButL.below {S:List Nat}{B:Nat}{w0 w w':World} (h0:Below B w0 w) (h:ButL S w w') (hB:∀ g∈S,B≤g) (hs:B≤w.heap.size):Below B w0 w' :=
 ⟨h.os.trans h0.os,h.tape.trans h0.tape,h.output.trans h0.output,Nat.le_trans h0.size h.size,fun k hk=>(h.block k (by omega) (fun e=>by have:=hB k e;omega)).trans (h0.block k hk)⟩
theorem ButL.blk {S:List Nat}{w w':World}{g:Nat}{o:Obj} (h:ButL S w w') (hg:w.heap[g]?=some o) (hS:g ∉ S):w'.heap[g]?=some o:=(h.block g (blk_lt hg) hS).trans hg
def NoInt (w:World) (g:Nat):Prop:=∀ (j:Nat) (k:IntKind) (z:Int),w.cell? ⟨g,j,none⟩≠some (.int k z)
theorem SlA.butl {α:Type}{S:List Nat}{w w':World}{k:Nat}{cells:α→List Value}{a:Option Addr}{xs:List α} (h:SlA w k cells a xs) (hi:∀ x:α,∃ (j:Nat) (k:IntKind) (z:Int),(cells x)[j]?=some (Value.int k z)) (hS:∀ g∈S,NoInt w g) (hb:ButL S w w'):SlA w' k cells a xs:=by
 intro i x hx
 obtain ⟨b,off,e,hl,hc⟩:=h i x hx
 obtain ⟨j,kk,z,hj⟩:=hi x
 have hnS:b ∉ S:=fun hm=>hS b hm _ _ _ (hc j _ hj)
 refine ⟨b,off,e,Nat.lt_of_lt_of_le hl hb.size,fun j v hv=>?_⟩
 have:=hc j v hv
 unfold World.cell? at this ⊢
 rw[hb.block b hl hnS]
 exact this
theorem intC_int (z:Int):∃ (j:Nat) (k:IntKind) (y:Int),(intC z)[j]?=some (Value.int k y):=⟨0,_,_,rfl⟩
theorem GD_int (g:GD):∃ (j:Nat) (k:IntKind) (y:Int),g.cells[j]?=some (Value.int k y):=⟨1,_,_,rfl⟩
theorem noint_mb {w:World}{g:Nat}{l:List Bool}{t:TypeId} (h:w.heap[g]?=some (.cells (mb l) t)):NoInt w g:=by
 intro j k z e
 rw[qAz h] at e
 by_cases hj:j<l.length
 ·rw[mb_get l j hj] at e;cases e
 ·rw[Array.getElem?_eq_none (by simp[mb];omega)] at e;cases e
structure SR where
 o:Option SD
 tv:Value
 gv:Value
def SR.cells (z:SR):List Value:=[.bool z.o.isSome,z.tv,z.gv]
theorem SR.len (z:SR):z.cells.length=3:=rfl
def SR.ok (w:World) (B:Nat) (z:SR):Prop:=match z.o with
 | none=>z.tv=.slice none 0 0∧z.gv=.slice none 0 0
 | some x=>ORow w B 3 1 intC z.tv x.ts∧ORow w B 113 3 GD.cells z.gv x.gs
structure StA (w:World) (B gS:Nat) (zs:List SR):Prop where
 blk:w.heap[gS]?=some (.cells (zs.flatMap SR.cells).toArray 58)
 ok:∀ z∈zs,z.ok w B
 ap:∀ (i j:Nat) (y z:SR),i≠j→zs[i]?=some y→zs[j]?=some z→Apart y.tv z.tv∧Apart y.gv z.gv
theorem SR.ok.keep {w w':World}{B:Nat}{z:SR} (h:z.ok w B) (h1:∀ j arr,B≤j→w.heap[j]?=some (.cells arr 3 (0,0))→w'.heap[j]?=w.heap[j]?) (h2:∀ j arr,B≤j→w.heap[j]?=some (.cells arr 113 (0,0))→w'.heap[j]?=w.heap[j]?):z.ok w' B:=by
 unfold SR.ok at h ⊢
 split at h
 ·exact h
 ·exact ⟨h.1.keep h1,h.2.keep h2⟩
theorem StA.keep {w w':World}{B gS:Nat}{zs:List SR} (h:StA w B gS zs) (h0:w'.heap[gS]?=w.heap[gS]?) (h1:∀ j arr,B≤j→w.heap[j]?=some (.cells arr 3 (0,0))→w'.heap[j]?=w.heap[j]?) (h2:∀ j arr,B≤j→w.heap[j]?=some (.cells arr 113 (0,0))→w'.heap[j]?=w.heap[j]?):StA w' B gS zs :=
 ⟨h0.trans h.blk,fun z hz=>(h.ok z hz).keep h1 h2,h.ap⟩
theorem StA.later {w w':World}{B gS:Nat}{zs:List SR} (h:StA w B gS zs) (hb:Below w.heap.size w w'):StA w' B gS zs :=
 h.keep (hb.block gS (blk_lt h.blk)) (fun j arr _ hj=>hb.block j (blk_lt hj)) (fun j arr _ hj=>hb.block j (blk_lt hj))
theorem StA.set_bool {w:World}{B gS g:Nat}{zs:List SR}{arr:Array Value} (h:StA w B gS zs) (hg:w.heap[g]?=some (.cells arr 4)) (j:Nat) (v:Value):StA (w.setCell ⟨g,j,none⟩ v) B gS zs:=by
 have hne:∀ (k:Nat) (ar:Array Value) (t:TypeId),t≠4→w.heap[k]?=some (.cells ar t)→(w.setCell ⟨g,j,none⟩ v).heap[k]?=w.heap[k]?:=fun k ar t ht hk=>Below.heap_setCell _ _ _ _ fun e=>by
  rw[show k=g from e,hg] at hk
  cases hk
  exact ht rfl
 exact h.keep (hne gS _ _ (by decide) h.blk) (fun k ar _ hk=>hne k ar _ (by decide) hk) (fun k ar _ hk=>hne k ar _ (by decide) hk)
theorem StA.cell {w:World}{B gS i j:Nat}{zs:List SR}{z:SR}{v:Value} (h:StA w B gS zs) (hz:zs[i]?=some z) (hv:z.cells[j]?=some v):w.cell? ⟨gS,i*3+j,none⟩=some v:=by
 rw[qAz h.blk]
 have:=flat_at SR.cells 3 zs i j z v (fun y _=>SR.len y) hz hv
 simpa using this
theorem StA.noint {w:World}{B gS:Nat}{zs:List SR} (h:StA w B gS zs):NoInt w gS:=by
 intro j k z e
 rw[qAz h.blk] at e
 have hm:(Value.int k z)∈zs.flatMap SR.cells:=by
  have:=Array.mem_of_getElem? e
  simpa using this
 obtain ⟨y,hy,hv⟩:=List.mem_flatMap.1 hm
 have hok:=h.ok y hy
 simp only[SR.cells,List.mem_cons,List.not_mem_nil,or_false] at hv
 unfold SR.ok at hok
 rcases hv with hv|hv|hv
 ·cases hv
 ·split at hok
  ·rw[hok.1] at hv;cases hv
  ·obtain ⟨a,c,e2⟩:=hok.1.val;rw[e2] at hv;cases hv
 ·split at hok
  ·rw[hok.2] at hv;cases hv
  ·obtain ⟨a,c,e2⟩:=hok.2.val;rw[e2] at hv;cases hv
theorem flat_set (l:List SR):∀ (i:Nat) (z:SR),i<l.length→(((l.flatMap SR.cells).set (i*3) (.bool z.o.isSome)).set (i*3+1) z.tv).set (i*3+2) z.gv=(l.set i z).flatMap SR.cells:=by
 induction l with
 | nil=>intro i z h;simp at h
 | cons y l ih =>
  intro i z h
  cases i with
  | zero=>simp[SR.cells]
  | succ i =>
   have:=ih i z (by simpa using h)
   rw[show (i+1)*3=i*3+3 by omega]
   simp only[List.flatMap_cons,List.set_cons_succ]
   rw[←this]
   rw[List.set_append_right _ _ (by simp[SR.cells]),List.set_append_right _ _ (by simp[SR.cells]),List.set_append_right _ _ (by simp[SR.cells])]
   simp only[SR.len]
   rw[show i*3+3-3=i*3 by omega,show i*3+3+1-3=i*3+1 by omega,show i*3+3+2-3=i*3+2 by omega]
theorem StA.put {w:World}{B gS i:Nat}{zs:List SR}{z:SR} (h:StA w B gS zs) (hi:i<zs.length) (hz:z.ok w B) (ha:∀ (j:Nat) (y:SR),j≠i→zs[j]?=some y→Apart y.tv z.tv∧Apart y.gv z.gv) :
  StA (((w.setCell ⟨gS,i*3,none⟩ (.bool z.o.isSome)).setCell ⟨gS,i*3+1,none⟩ z.tv).setCell ⟨gS,i*3+2,none⟩ z.gv) B gS (zs.set i z):=by
 have hb:=qLz (qLz (qLz h.blk (i*3) (.bool z.o.isSome)) (i*3+1) z.tv) (i*3+2) z.gv
 have hne:∀ (k:Nat) (ar:Array Value) (t:TypeId),t≠58→w.heap[k]?=some (.cells ar t)→(((w.setCell ⟨gS,i*3,none⟩ (.bool z.o.isSome)).setCell ⟨gS,i*3+1,none⟩ z.tv).setCell ⟨gS,i*3+2,none⟩ z.gv).heap[k]?=w.heap[k]?:=fun k ar t ht hk=>by
  have hk':k≠gS:=fun e=>by
   rw[e,h.blk] at hk
   cases hk
   exact ht rfl
  rw[Below.heap_setCell _ _ _ _ hk',Below.heap_setCell _ _ _ _ hk',Below.heap_setCell _ _ _ _ hk']
 refine ⟨?_,fun y hy=>?_,fun a b y y' hab h1 h2=>?_⟩
 ·rw[hb]
  congr 2
  apply Array.toList_inj.1
  simp only[Array.toList_setIfInBounds]
  exact flat_set zs i z hi
 ·have hy':y.ok w B:=by
   rcases List.mem_or_eq_of_mem_set hy with hy|rfl
   ·exact h.ok y hy
   ·exact hz
  exact hy'.keep (fun k ar _ hk=>hne k ar _ (by decide) hk) (fun k ar _ hk=>hne k ar _ (by decide) hk)
 ·rw[List.getElem?_set] at h1 h2
  split at h1
  ·rename_i e
   subst e
   rw[if_neg hab] at h2
   cases h1
   obtain ⟨q1,q2⟩:=ha b y' (fun e=>hab e.symm) h2
   exact ⟨q1.symm,q2.symm⟩
  ·rename_i e
   split at h2
   ·rename_i e2
    subst e2
    cases h2
    exact ha a y (fun e=>hab e) h1
   ·exact h.ap a b y y' hab h1 h2
theorem app_many (st et:TypeId) (k by':Nat) (hu:Tryz.prog.underlying st=some (.slice et)) (hc:(Tryz.prog.info? et).map (fun i=>(i.zero.map (fun z=>z.cells.size),i.size,i.bytes))=some (some k,k,by')) (hk:0<k) (hby:by'≤1000)
  (base:Nat) (w:World) (sv:Value) (n:Nat) (xs news:List Value) (ad:Addr) (m c:Nat) (ty:TypeId) (ho:w.ownsRow base et k sv n xs) (hl:news.length=m*k) (hn:∀ j u,news[j]?=some u→w.cell? (ad.add j)=some u) (h1:∀ u∈news,u.oneCell'=true) (hlen:n+m≤2000000) (hb:base≤w.heap.size) :
  ∃ v' w',(Builtin.append_ #[st,st] ty #[sv,.slice (some ad) m c]).run Tryz.prog w=.ok v' w'∧w'.ownsRow base et k v' (n+m) (xs++news)∧w.grownBy w' sv.ownBlock:=by
 obtain ⟨i,z,hi,hz,e1,e2,e3⟩:∃ (i:TypeInfo) (z:Value),Tryz.prog.info? et=some i∧i.zero=some z∧i.size=k∧i.bytes=by'∧z.cells.size=k:=by
  cases hi:Tryz.prog.info? et with
  | none=>rw[hi] at hc;cases hc
  | some i =>
   rw[hi] at hc
   simp only[Option.map_some,Option.some.injEq,Prod.mk.injEq] at hc
   obtain ⟨h1,h2,h3⟩:=hc
   cases hz:i.zero with
   | none=>rw[hz] at h1;cases h1
   | some z=>rw[hz] at h1;simp at h1;exact ⟨i,z,rfl,hz,h2,h3,h1⟩
 obtain ⟨v',w',hr,ho',hg,_⟩:=run_append_own (P:=Tryz.prog) w base st ty et i z k by' hu hi hz e1 e2 e3 hk sv n xs ho ad m c news hl hn h1 (by unfold maxLen;omega) (by
   have:(n+m)*by'≤2000000*1000:=Nat.mul_le_mul (by omega) hby
   omega) hb
 exact ⟨v',w',hr,ho',hg⟩
theorem flat_len_int:∀ (l:List Int),(l.flatMap intC).length=l.length*1
 | []=>rfl
 | y::l=>by rw[List.flatMap_cons,List.length_append,intC_len,List.length_cons,flat_len_int l,Nat.add_mul,Nat.one_mul,Nat.add_comm]
theorem sl_cells_int {w:World}{a:Option Addr}{xs:List Int} (hp:SlA w 1 intC a xs) (ad:Addr) (ha:a=some ad):∀ j u,(xs.flatMap intC)[j]?=some u→w.cell? (ad.add j)=some u:=by
 intro j u hj
 have hlen:=flat_len_int xs
 have hjl:=(List.getElem?_eq_some_iff.1 hj).1
 have hi:j / 1<xs.length:=by rw[hlen] at hjl;omega
 have hx:xs[j / 1]?=some (xs[j / 1]'hi):=List.getElem?_eq_getElem hi
 obtain ⟨b,off,e,_,hc⟩:=hp _ _ hx
 rw[ha] at e
 cases e
 have hm:j % 1<(intC (xs[j / 1]'hi)).length:=by rw[intC_len];omega
 have hv:(intC (xs[j / 1]'hi))[j % 1]?=some ((intC (xs[j / 1]'hi))[j % 1]'hm):=List.getElem?_eq_getElem hm
 have h2:=flat_at intC 1 xs (j / 1) (j % 1) _ _ (fun y _=>intC_len y) hx hv
 rw[show j / 1*1+j % 1=j by omega,hj] at h2
 rw[Addr.add_lit,show off+j=off+j / 1*1+j % 1 by omega,hc _ _ hv]
 exact h2.symm
theorem clone_int (a:Option Addr) (len cap:Nat) (xs:List Int) (w:World) (hl:xs.length=len) (hp:SlA w 1 intC a xs) (hlen:len≤6000) :
  Calls Tryz.prog 109 #[.slice a len cap] w fun e w'=>(∃ sv,e=.returned sv∧ORow w' w.heap.size 3 1 intC sv xs)∧Below w.heap.size w w':=by
 cases a with
 | none =>
  have hx:xs=[]:=by
   cases xs with
   | nil=>rfl
   | cons x xs=>obtain ⟨b,off,e,_⟩:=hp 0 x rfl;cases e
  subst hx
  have hq:∀ W:World,(binOp .eql 55 (.slice none len cap) (.slice none 0 0)).run Tryz.prog W=.ok (.bool true) W:=fun W=>Lib.run_eql_slice_nil W 55 3 none len cap 0 0 Tryz.underlying55
  go_enter Tryz.func109,Tryz.ntmps109
  go_wp2_with fail
  go_ret
  exact ⟨⟨_,rfl,ORow.nil _ _ _ _ _⟩,Below.refl _ _⟩
 | some ad =>
  have hq:∀ W:World,(binOp .eql 55 (.slice (some ad) len cap) (.slice none 0 0)).run Tryz.prog W=.ok (.bool false) W:=fun W=>Lib.run_eql_slice_nil W 55 3 (some ad) len cap 0 0 Tryz.underlying55
  have hy:=bw1 w (.cells #[] 3)
  have h0:(w.alloc (.cells #[] 3)).ownsRow w.heap.size 3 1 (.slice (some ⟨w.heap.size,0,none⟩) 0 0) 0 []:=⟨by simp,.inr ⟨w.heap.size,0,#[],rfl,Nat.le_refl _,qKz _ _,Nat.le_refl _,Nat.zero_le _,by simp,by simp⟩⟩
  obtain ⟨v',w2,hr,ho,hg⟩:=app_many 55 3 1 8 Tryz.underlying55 (by kernel_rfl) (by omega) (by omega) w.heap.size (w.alloc (.cells #[] 3)) _ 0 [] (xs.flatMap intC) ad len cap 55 h0 (by rw[←hl];exact flat_len_int xs) (fun j u hj=>sl_cells_int (hp.later hy) ad rfl j u hj) (by intro u hu;obtain ⟨x,_,hx⟩:=List.mem_flatMap.1 hu;simp[intC] at hx;subst hx;rfl) (by omega) (by simp)
  have HB:Hid (Below w.heap.size w w2):=below_grown hy (by simp) h0 (Nat.le_refl _) hg
  have HO:Hid (ORow w2 w.heap.size 3 1 intC v' xs):=by show w2.ownsRow _ _ _ _ _ _;rw[Nat.zero_add,List.nil_append] at ho;rw[hl];exact ho
  clear ho hg h0 hy hp
  go_enter Tryz.func109,Tryz.ntmps109
  go_wp2_with (at_builtin;refine qEz rfl _ _ _ rfl _ _ _ _ rfl rfl hr ?_;clear hr)
  go_ret
  exact ⟨⟨_,rfl,HO.out⟩,HB.out⟩
theorem flat_len_gd:∀ (l:List GD),(l.flatMap GD.cells).length=l.length*3
 | []=>rfl
 | y::l=>by rw[List.flatMap_cons,List.length_append,GD.len,List.length_cons,flat_len_gd l,Nat.add_mul,Nat.one_mul,Nat.add_comm]
theorem sl_cells_gd {w:World}{a:Option Addr}{xs:List GD} (hp:SlA w 3 GD.cells a xs) (ad:Addr) (ha:a=some ad):∀ j u,(xs.flatMap GD.cells)[j]?=some u→w.cell? (ad.add j)=some u:=by
 intro j u hj
 have hlen:=flat_len_gd xs
 have hjl:=(List.getElem?_eq_some_iff.1 hj).1
 have hi:j / 3<xs.length:=by rw[hlen] at hjl;omega
 have hx:xs[j / 3]?=some (xs[j / 3]'hi):=List.getElem?_eq_getElem hi
 obtain ⟨b,off,e,_,hc⟩:=hp _ _ hx
 rw[ha] at e
 cases e
 have hm:j % 3<(GD.cells (xs[j / 3]'hi)).length:=by rw[GD.len];omega
 have hv:(GD.cells (xs[j / 3]'hi))[j % 3]?=some ((GD.cells (xs[j / 3]'hi))[j % 3]'hm):=List.getElem?_eq_getElem hm
 have h2:=flat_at GD.cells 3 xs (j / 3) (j % 3) _ _ (fun y _=>GD.len y) hx hv
 rw[show j / 3*3+j % 3=j by omega,hj] at h2
 rw[Addr.add_lit,show off+j=off+j / 3*3+j % 3 by omega,hc _ _ hv]
 exact h2.symm
theorem clone_gd (a:Option Addr) (len cap:Nat) (xs:List GD) (w:World) (hl:xs.length=len) (hp:SlA w 3 GD.cells a xs) (hlen:len≤6000) :
  Calls Tryz.prog 110 #[.slice a len cap] w fun e w'=>(∃ sv,e=.returned sv∧ORow w' w.heap.size 113 3 GD.cells sv xs)∧Below w.heap.size w w':=by
 cases a with
 | none =>
  have hx:xs=[]:=by
   cases xs with
   | nil=>rfl
   | cons x xs=>obtain ⟨b,off,e,_⟩:=hp 0 x rfl;cases e
  subst hx
  have hq:∀ W:World,(binOp .eql 56 (.slice none len cap) (.slice none 0 0)).run Tryz.prog W=.ok (.bool true) W:=fun W=>Lib.run_eql_slice_nil W 56 113 none len cap 0 0 Tryz.underlying56
  go_enter Tryz.func110,Tryz.ntmps110
  go_wp2_with fail
  go_ret
  exact ⟨⟨_,rfl,ORow.nil _ _ _ _ _⟩,Below.refl _ _⟩
 | some ad =>
  have hq:∀ W:World,(binOp .eql 56 (.slice (some ad) len cap) (.slice none 0 0)).run Tryz.prog W=.ok (.bool false) W:=fun W=>Lib.run_eql_slice_nil W 56 113 (some ad) len cap 0 0 Tryz.underlying56
  have hy:=bw1 w (.cells #[] 113)
  have h0:(w.alloc (.cells #[] 113)).ownsRow w.heap.size 113 3 (.slice (some ⟨w.heap.size,0,none⟩) 0 0) 0 []:=⟨by simp,.inr ⟨w.heap.size,0,#[],rfl,Nat.le_refl _,qKz _ _,Nat.le_refl _,Nat.zero_le _,by simp,by simp⟩⟩
  obtain ⟨v',w2,hr,ho,hg⟩:=app_many 56 113 3 24 Tryz.underlying56 (by kernel_rfl) (by omega) (by omega) w.heap.size (w.alloc (.cells #[] 113)) _ 0 [] (xs.flatMap GD.cells) ad len cap 56 h0 (by rw[←hl];exact flat_len_gd xs) (fun j u hj=>sl_cells_gd (hp.later hy) ad rfl j u hj) (by intro u hu;obtain ⟨x,_,hx⟩:=List.mem_flatMap.1 hu;simp[GD.cells] at hx;rcases hx with rfl|rfl|rfl <;> rfl) (by omega) (by simp)
  have HB:Hid (Below w.heap.size w w2):=below_grown hy (by simp) h0 (Nat.le_refl _) hg
  have HO:Hid (ORow w2 w.heap.size 113 3 GD.cells v' xs):=by show w2.ownsRow _ _ _ _ _ _;rw[Nat.zero_add,List.nil_append] at ho;rw[hl];exact ho
  clear ho hg h0 hy hp
  go_enter Tryz.func110,Tryz.ntmps110
  go_wp2_with (at_builtin;refine qEz rfl _ _ _ rfl _ _ _ _ rfl rfl hr ?_;clear hr)
  go_ret
  exact ⟨⟨_,rfl,HO.out⟩,HB.out⟩
end Go.Proofs.YtfejmalmnjmanaaGreatDoor
