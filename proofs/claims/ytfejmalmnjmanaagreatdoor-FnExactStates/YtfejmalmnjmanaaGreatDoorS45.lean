import Derived.Test.YtfejmalmnjmanaaGreatDoorS43
import Derived.Test.YtfejmalmnjmanaaGreatDoorS44
import Derived.Test.YtfejmalmnjmanaaGreatDoorS24
set_option linter.unusedVariables false
set_option linter.unusedSimpArgs false
set_option maxRecDepth 20000
set_option maxHeartbeats 8000000
namespace Go.Proofs.YtfejmalmnjmanaaGreatDoor
open Go.RowKit
theorem pass_code {c:List FD}{ins:List ID}{a:Nat}{s:WkS}{e:Nat × Nat}{nR nI:Nat} (hw:WOk nR nI s) (ha:s.due[a]?=some true) (h:passW c ins a s=.error e):e.1=10∨e.1=11∨e.1=12∨e.1=13:=by
 unfold passW at h
 obtain ⟨x,hx⟩:=hw.due a ha
 rw[List.getD_eq_getElem?_getD,hx] at h
 simp only[Option.getD_some] at h
 unfold behindV at h
 split at h
 ·rename_i k hk
  cases h
  split at hk
  ·cases hk;exact .inl rfl
  ·split at hk
   ·cases hk;exact .inr (.inl rfl)
   ·split at hk
    ·cases hk
    ·cases hk;exact .inr (.inr (.inl rfl))
 ·split at h
  ·cases h;exact .inr (.inr (.inr rfl))
  ·cases h
theorem runs_code {c:List FD}{ins:List ID}{nR nI:Nat} (hi:∀ n∈ins,InsOk nR nI n) (hl:ins.length=nI):∀ {k:Nat}{s:WkS}{e:Nat × Nat},WOk nR nI s→Runs c ins k s (.error e)→e.1=10∨e.1=11∨e.1=12∨e.1=13
 | 0,s,e,hw,h=>by
  rcases h with ⟨_,h⟩|⟨a,e',h1,h2,h3⟩
  ·cases h
  ·cases h3;exact pass_code hw h1.1 h2
 | k+1,s,e,hw,h=>by
  obtain ⟨a,s',h1,h2,h3⟩:=h
  have ha:a<ins.length:=by have:=(List.getElem?_eq_some_iff.1 h1.1).1;have:=hw.l2;omega
  exact runs_code hi hl (passW_ok hi ha hw h2) h3
theorem walk_v (xs:List FC) (ac:Option Addr) (lc cc p:Nat) (f:FC) (w:World) (hc:CodeAt w ac xs) (hlc:xs.length=lc) (hp:xs[p]?=some f) (hs:(shapeV (xs.map FC.d)).1=0) :
  Calls Tryz.prog 19 #[.agg #[.slice ac lc cc],.int .i64 p] w fun e w'=>(∃ k R,Runs (xs.map FC.d) f.d.ins k (startS f.d) R∧WkP p f.d.ins.length (EE f.d) R w.heap.size e w')∧Below w.heap.size w w':=by
 have hf:=prok_of hs hp
 obtain ⟨k0,R,hR⟩:=runs_ex (xs.map FC.d) f.d.ins (mu (startS f.d)) (startS f.d) (by have h:=startS_ok hf;rw[h.l1,h.l2]) (Nat.le_refl _)
 cases hr:f.d.rest
 ·exact (walk_f xs ac lc cc p f _ _ _ _ w hc hlc hp hf hr k0 R hR).mono fun e w' h=>⟨⟨k0,R,hR,h.1⟩,h.2⟩
 ·exact (walk_t xs ac lc cc p f _ _ _ _ w hc hlc hp hf hr k0 R hR).mono fun e w' h=>⟨⟨k0,R,hR,h.1⟩,h.2⟩
theorem walk_r (xs:List FC) (ac:Option Addr) (lc cc p:Nat) (f:FC) (w:World) (hc:CodeAt w ac xs) (hlc:xs.length=lc) (hp:xs[p]?=some f) (hs:(shapeV (xs.map FC.d)).1=0) :
  Calls Tryz.prog 19 #[.agg #[.slice ac lc cc],.int .i64 p] w fun e w'=>(∃ (r:Option F3) (a:Option Addr) (n c:Nat),WF (xs.map FC.d) p f.d r∧e=.returned (.tuple #[.slice a n c,FV (r.getD (0,0,0)).1 (r.getD (0,0,0)).2.1 (r.getD (0,0,0)).2.2])∧(∀ t,r=some t→t.1≠0))∧Below w.heap.size w w':=by
 have hf:=prok_of hs hp
 refine (walk_v xs ac lc cc p f w hc hlc hp hs).mono ?_
 rintro e w' ⟨⟨k,R,hR,hP⟩,hb⟩
 refine ⟨?_,hb⟩
 cases R with
 | error x =>
  have hx:=runs_code hf.ok hf.ins (startS_ok hf) hR
  exact ⟨some ((x.1:Int),(p:Int),(x.2:Int)),none,0,0,⟨k,_,hR,rfl⟩,hP,fun t ht=>by cases ht;dsimp only;omega⟩
 | ok s =>
  rcases hP with ⟨i,h1,h2⟩|⟨h1,gS,zs,h2,_⟩
  ·exact ⟨some (14,(p:Int),(i:Int)),none,0,0,⟨k,_,hR,.inl ⟨i,h1,rfl⟩⟩,h2,fun t ht=>by cases ht;simp⟩
  ·exact ⟨none,_,_,_,⟨k,_,hR,.inr ⟨h1,rfl⟩⟩,h2,fun t ht=>by cases ht⟩
theorem scheck_any (a:Option Addr) (len cap:Nat) (xs:List FC) (w:World) (H0:CodeAt w a xs) (hl:xs.length=len) :
  Calls Tryz.prog 6 #[.agg #[.slice a len cap]] w fun e w'=>(∃ r:F3,CkR (xs.map FC.d) r∧e=.returned (FV r.1 r.2.1 r.2.2))∧Below w.heap.size w w':=by
 have H:Hid (CodeAt w a xs):=H0
 have HL:Hid (xs.length=len):=hl
 clear H0 hl
 have hlen:len≤1048576:=by have:=H.out.len;have:=HL.out;omega
 obtain ⟨⟨sc,sp,si⟩,hsv⟩:∃ v,shapeV (xs.map FC.d)=v:=⟨_,rfl⟩
 have hy2:=bw2 w (.cells #[.slice a len cap] 31) (FO 0 0 0)
 have B0:Hid (((w.alloc (.cells #[.slice a len cap] 31)).alloc (FO 0 0 0)).heap[w.heap.size]?=some (.cells #[.slice a len cap] 31)):=qIz (qKz _ _) _
 have B1:Hid (((w.alloc (.cells #[.slice a len cap] 31)).alloc (FO 0 0 0)).heap[w.heap.size+1]?=some (FO 0 0 0)):=qNz (by simp) _
 obtain ⟨W2,hW2⟩:∃ W,(w.alloc (.cells #[.slice a len cap] 31)).alloc (FO 0 0 0)=W:=⟨_,rfl⟩
 rw[hW2] at hy2 B0 B1
 have HY2:Hid (Below w.heap.size w W2):=hy2
 clear hy2
 have a9:W2.cell? ⟨w.heap.size,0,none⟩=some (.slice a len cap):=by rw[qAz B0.out];rfl
 by_cases h0:sc=0
 ·have t0:(sc != 0)=false:=by simpa using h0
  have HS:Hid ((shapeV (xs.map FC.d)).1=0):=by show _=_;rw[hsv];exact h0
  go_enter Tryz.func6,Tryz.ntmps6
  go_wp2_with (go_at_call 18;refine (shape_any a len cap xs _ (H.out.later HY2.out) HL.out).mono ?_;rw[hsv];simp only[F3V];rintro e w1 ⟨rfl,hb1⟩;clear a9;have B1':Hid _:=qBz hb1 B1.out;have B0':Hid _:=qBz hb1 B0.out;have HB1:Hid (Below w.heap.size w w1):=HY2.out.trans (hb1.mono HY2.out.size);have a0:w1.cell? ⟨w.heap.size,0,none⟩=some (.slice a len cap):=(by rw[qAz B0'.out];rfl);have hlt1:=blk_lt B1'.out;have hlt0:=blk_lt B0'.out)
  subst h0
  have HB2:Hid (Below w.heap.size w (w1.alloc (FO 0 sp si))):=qJz HB1.out _
  have C0:Hid _:=qIz B0'.out (FO 0 sp si)
  have C1:Hid _:=qIz B1'.out (FO 0 sp si)
  clear a0
  go_loopw [16] (fun r wi=>∃ m:Nat,m≤len∧r=.int .i64 m∧Hid (Below w.heap.size w wi)∧Hid (wi.heap[w.heap.size]?=some (.cells #[.slice a len cap] 31))∧Hid (wi.heap[w.heap.size+1]?=some (FO 0 0 0))∧Hid (∀ r,CkF (xs.map FC.d) m ((xs.drop m).map FC.d) r→CkF (xs.map FC.d) 0 (xs.map FC.d) r)) (fun r _=>len-(intOf r).toNat)
  case atStart=>exact ⟨0,Nat.zero_le _,rfl,HB2,C0,C1,fun r h=>h⟩
  case round =>
   clear HB2 C0 C1
   obtain ⟨m,hm,rfl,HB,D0,D1,HK⟩:=hrel
   by_cases k1:m<len
   ·obtain ⟨f,hf⟩:∃ f,xs[m]?=some f:=⟨xs[m]'(by rw[HL.out];exact k1),by simp⟩
    have HFm:Hid (xs[m]?=some f):=hf
    have HDr:Hid ((xs.drop m).map FC.d=f.d::(xs.drop (m+1)).map FC.d):=by
     show _=_
     have hlt:=(List.getElem?_eq_some_iff.1 hf).1
     rw[List.drop_eq_getElem_cons hlt,(List.getElem?_eq_some_iff.1 hf).2,List.map_cons]
    have b0:wr.cell? ⟨w.heap.size,0,none⟩=some (.slice a len cap):=by rw[qAz D0.out];rfl
    clear hf
    by_cases hW:WF (xs.map FC.d) m f.d none
    ·have HK2:Hid (∀ r,CkF (xs.map FC.d) (m+1) ((xs.drop (m+1)).map FC.d) r→CkF (xs.map FC.d) 0 (xs.map FC.d) r):=fun r h=>HK.out r (by rw[HDr.out];exact .inr ⟨hW,h⟩)
     go_wp2_with (go_at_call 19;refine (walk_r xs a len cap m f _ (H.out.later HB.out) HL.out HFm.out HS.out).mono ?_;rintro e w2 ⟨⟨r,aa,nn,cc,hWF,rfl,hnz⟩,hb2⟩;obtain rfl:r=none:=hWF.uniq hW;have HB3:Hid (Below w.heap.size w w2):=HB.out.trans (hb2.mono HB.out.size);have E0:Hid _:=qBz hb2 D0.out;have E1:Hid _:=qBz hb2 D1.out;clear hb2 hWF hnz b0)
     go_roundw
     case rel=>exact ⟨m+1,by omega,by go_num,qJz HB3.out _,qIz E0.out _,qIz E1.out _,HK2⟩
     case measure=>simp[intOf];omega
    ·go_wp2_with (go_at_call 19;refine (walk_r xs a len cap m f _ (H.out.later HB.out) HL.out HFm.out HS.out).mono ?_;rintro e w2 ⟨⟨r,aa,nn,cc,hWF,rfl,hnz⟩,hb2⟩;obtain ⟨⟨tc,tp,ti⟩,rfl⟩:∃ t,r=some t:=(by cases r;exact absurd hWF hW;exact ⟨_,rfl⟩);have tnz:(tc != 0)=true:=(by have:=hnz _ rfl;simpa using this);simp only[Option.getD_some];have HB3:Hid (Below w.heap.size w w2):=HB.out.trans (hb2.mono HB.out.size);have HR:Hid (CkR (xs.map FC.d) (tc,tp,ti)):=(by show CkR _ _;unfold CkR;rw[if_pos HS.out];exact HK.out _ (by rw[HDr.out];exact .inl hWF));obtain ⟨w3,hw3⟩:∃ w3,w2.alloc (FO tc tp ti)=w3:=⟨_,rfl⟩;have HB4:Hid (Below w.heap.size w w3):=(by rw[←hw3];exact qJz HB3.out _);have E1:Hid (w3.heap[w.heap.size+1]?=some (FO 0 0 0)):=(by rw[←hw3];exact qIz (qBz hb2 D1.out) _);have E2:Hid (w3.heap[w2.heap.size]?=some (FO tc tp ti)):=(by rw[←hw3];exact qKz _ _);have r0:w3.cell? ⟨w.heap.size+1,0,none⟩=some (.int .i64 0):=(by rw[qAz E1.out];rfl);have r1:w3.cell? ⟨w.heap.size+1,1,none⟩=some (.int .i64 0):=(by rw[qAz E1.out];rfl);have r2:w3.cell? ⟨w.heap.size+1,2,none⟩=some (.int .i64 0):=(by rw[qAz E1.out];rfl);have z9:=qGz E1.out;have v0:w3.cell? ⟨w2.heap.size,0,none⟩=some (.int .i64 tc):=(by rw[qAz E2.out];rfl);have v1:w3.cell? ⟨w2.heap.size,1,none⟩=some (.int .i64 tp):=(by rw[qAz E2.out];rfl);have v2:w3.cell? ⟨w2.heap.size,2,none⟩=some (.int .i64 ti):=(by rw[qAz E2.out];rfl);clear hb2 hWF hnz b0)
     refine bodyPost_ret (v:=FV tc tp ti) (by simp[results,Tryz.results6,go_sem,r0,r1,r2]) rfl ⟨⟨(tc,tp,ti),HR.out,rfl⟩,?_⟩
     exact ((HB4.out.setCell (p:=⟨w.heap.size+1,0,none⟩) (by simp) _).setCell (p:=⟨w.heap.size+1,1,none⟩) (by simp) _).setCell (p:=⟨w.heap.size+1,2,none⟩) (by simp) _
   ·have hme:m=len:=by omega
    subst hme
    have HR:Hid (CkR (xs.map FC.d) (0,0,0)):=by
     show CkR _ _
     unfold CkR
     rw[if_pos HS.out]
     exact HK.out _ (by rw[List.drop_of_length_le (by rw[HL.out];omega)];rfl)
    have r0:wr.cell? ⟨w.heap.size+1,0,none⟩=some (.int .i64 0):=by rw[qAz D1.out];rfl
    have r1:wr.cell? ⟨w.heap.size+1,1,none⟩=some (.int .i64 0):=by rw[qAz D1.out];rfl
    have r2:wr.cell? ⟨w.heap.size+1,2,none⟩=some (.int .i64 0):=by rw[qAz D1.out];rfl
    have z9:=qGz D1.out
    go_wp2_with fail
    refine bodyPost_ret (v:=FV 0 0 0) (by simp[results,Tryz.results6,go_sem,r0,r1,r2]) rfl ⟨⟨(0,0,0),HR.out,rfl⟩,?_⟩
    exact ((HB.out.setCell (p:=⟨w.heap.size+1,0,none⟩) (by simp) _).setCell (p:=⟨w.heap.size+1,1,none⟩) (by simp) _).setCell (p:=⟨w.heap.size+1,2,none⟩) (by simp) _
 ·have t0:(sc != 0)=true:=by simpa using h0
  have HR:Hid (CkR (xs.map FC.d) (sc,sp,si)):=by show CkR _ _;unfold CkR;rw[if_neg (by rw[hsv];exact h0)];exact hsv.symm
  go_enter Tryz.func6,Tryz.ntmps6
  go_wp2_with (go_at_call 18;refine (shape_any a len cap xs _ (H.out.later HY2.out) HL.out).mono ?_;rw[hsv];simp only[F3V];rintro e w2 ⟨rfl,hb1⟩;clear a9;obtain ⟨w3,hw3⟩:∃ w3,w2.alloc (FO sc sp si)=w3:=⟨_,rfl⟩;have HB4:Hid (Below w.heap.size w w3):=(by rw[←hw3];exact qJz (HY2.out.trans (hb1.mono HY2.out.size)) _);have E1:Hid (w3.heap[w.heap.size+1]?=some (FO 0 0 0)):=(by rw[←hw3];exact qIz (qBz hb1 B1.out) _);have E2:Hid (w3.heap[w2.heap.size]?=some (FO sc sp si)):=(by rw[←hw3];exact qKz _ _);have r0:w3.cell? ⟨w.heap.size+1,0,none⟩=some (.int .i64 0):=(by rw[qAz E1.out];rfl);have r1:w3.cell? ⟨w.heap.size+1,1,none⟩=some (.int .i64 0):=(by rw[qAz E1.out];rfl);have r2:w3.cell? ⟨w.heap.size+1,2,none⟩=some (.int .i64 0):=(by rw[qAz E1.out];rfl);have z9:=qGz E1.out;have v0:w3.cell? ⟨w2.heap.size,0,none⟩=some (.int .i64 sc):=(by rw[qAz E2.out];rfl);have v1:w3.cell? ⟨w2.heap.size,1,none⟩=some (.int .i64 sp):=(by rw[qAz E2.out];rfl);have v2:w3.cell? ⟨w2.heap.size,2,none⟩=some (.int .i64 si):=(by rw[qAz E2.out];rfl);clear hb1)
  refine bodyPost_ret (v:=FV sc sp si) (by simp[results,Tryz.results6,go_sem,r0,r1,r2]) rfl ⟨⟨(sc,sp,si),HR.out,rfl⟩,?_⟩
  exact ((HB4.out.setCell (p:=⟨w.heap.size+1,0,none⟩) (by simp) _).setCell (p:=⟨w.heap.size+1,1,none⟩) (by simp) _).setCell (p:=⟨w.heap.size+1,2,none⟩) (by simp) _
end Go.Proofs.YtfejmalmnjmanaaGreatDoor
