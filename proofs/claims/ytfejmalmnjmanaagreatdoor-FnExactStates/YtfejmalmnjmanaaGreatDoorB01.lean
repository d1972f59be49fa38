import Derived.Test.YtfejmalmnjmanaaGreatDoorS45
import Derived.Test.YtfejmalmnjmanaaGreatDoorS43
import Derived.Test.YtfejmalmnjmanaaGreatDoorS24
import Derived.Test.YtfejmalmnjmanaaGreatDoorS23
import Derived.Test.YtfejmalmnjmanaaGreatDoorS22
import Derived.Test.YtfejmalmnjmanaaGreatDoorS17
import Derived.Test.YtfejmalmnjmanaaGreatDoorS12
import Derived.Test.YtfejmalmnjmanaaGreatDoorS10
import Derived.Test.YtfejmalmnjmanaaGreatDoorS09
import Derived.Test.YtfejmalmnjmanaaGreatDoorS08
import Derived.Test.YtfejmalmnjmanaaGreatDoorS07
import Derived.Test.YtfejmalmnjmanaaGreatDoorS06
import Derived.Test.YtfejmalmnjmanaaGreatDoorS02
import Derived.Test.YtfejmalmnjmanaaGreatDoorS01
import Derived.Test.YtfejmalmnjmanaaGreatDoorRows
import Derived.WalkKit
import Derived.WalkSpells
import Derived.WalkLawsBesides
import Derived.ProofKit
import Derived.OpenShut
import Derived.Below
import Derived.Laws.FloatArith
import Derived.OwnWalk
import Derived.Test.YtfejmalmnjmanaaGreatDoorS05
import Derived.Test.YtfejmalmnjmanaaGreatDoorS04
import Derived.Test.YtfejmalmnjmanaaGreatDoorS03
import Derived.Deep.RegionWith
import Derived.Deep.QuietTactic
import Derived.BigQuiet
import Derived.LoopN
import Derived.Test.YtfejmalmnjmanaaGreatDoorS11
import Derived.Test.YtfejmalmnjmanaaGreatDoorS14
import Derived.Test.YtfejmalmnjmanaaGreatDoorS13
import Derived.Laws.OwnMore
import Derived.Test.YtfejmalmnjmanaaGreatDoorS15
import Derived.Test.YtfejmalmnjmanaaGreatDoorS16
import Derived.Test.YtfejmalmnjmanaaGreatDoorS21
import Derived.Deep.CutRange
import Derived.Test.YtfejmalmnjmanaaGreatDoorS44
import Derived.Test.YtfejmalmnjmanaaGreatDoorS42
import Derived.Test.YtfejmalmnjmanaaGreatDoorS34
import Derived.Test.YtfejmalmnjmanaaGreatDoorS27
import Derived.Test.YtfejmalmnjmanaaGreatDoorS26
import Derived.Test.YtfejmalmnjmanaaGreatDoorS25
import Derived.Test.YtfejmalmnjmanaaGreatDoorS19
import Derived.Test.YtfejmalmnjmanaaGreatDoorS18
import Derived.BigRegion
import Derived.Test.YtfejmalmnjmanaaGreatDoorS20
import Derived.Laws.Externs
import Derived.Deep.RegionLaw
import Derived.Test.YtfejmalmnjmanaaGreatDoorS28
import Derived.Lib.SliceRun
import Derived.Test.YtfejmalmnjmanaaGreatDoorS33
import Derived.Test.YtfejmalmnjmanaaGreatDoorS29
import Derived.Test.YtfejmalmnjmanaaGreatDoorS30
import Derived.Test.YtfejmalmnjmanaaGreatDoorS32
import Derived.Test.YtfejmalmnjmanaaGreatDoorS31
import Derived.Test.YtfejmalmnjmanaaGreatDoorS38
import Derived.Test.YtfejmalmnjmanaaGreatDoorS37
import Derived.Test.YtfejmalmnjmanaaGreatDoorS35
import Derived.Test.YtfejmalmnjmanaaGreatDoorS36
import Derived.Test.YtfejmalmnjmanaaGreatDoorS41
import Derived.Test.YtfejmalmnjmanaaGreatDoorS40
import Derived.Test.YtfejmalmnjmanaaGreatDoorS39
import Derived.LaidEql
import Derived.Stop.Asserts
import Derived.RowKitTokens
set_option linter.unusedVariables false
set_option linter.unusedSimpArgs false
set_option maxRecDepth 20000
set_option maxHeartbeats 8000000
namespace Go.Proofs.YtfejmalmnjmanaaGreatDoor
open Go.RowKit
theorem wf_code {xs:List FC}{p:Nat}{f:FC}{t:F3} (hs:(shapeV (xs.map FC.d)).1=0) (hp:xs[p]?=some f) (h:WF (xs.map FC.d) p f.d (some t)):t.1≠0:=by
 have hf:=prok_of hs hp
 obtain ⟨k,R,h1,h2⟩:=h
 cases R with
 | error x =>
  have hx:=runs_code hf.ok hf.ins (startS_ok hf) h1
  cases h2
  dsimp only
  omega
 | ok s =>
  rcases h2 with ⟨i,_,h3⟩|⟨_,h3⟩
  ·cases h3;simp
  ·cases h3
theorem ckf_nons {xs:List FC} (hs:(shapeV (xs.map FC.d)).1=0):∀ {m:Nat}{r:F3},r.1=0→CkF (xs.map FC.d) m ((xs.drop m).map FC.d) r→∀ (p:Nat) (f:FC),m≤p→xs[p]?=some f→WF (xs.map FC.d) p f.d none:=by
 intro m
 induction hn:xs.length-m generalizing m with
 | zero =>
  intro r _ _ p f hmp hp
  have:=(List.getElem?_eq_some_iff.1 hp).1
  omega
 | succ n ih =>
  intro r hr h p f hmp hp
  have hlt:m<xs.length:=by omega
  rw[List.drop_eq_getElem_cons hlt,List.map_cons] at h
  have hm:xs[m]?=some (xs[m]'hlt):=List.getElem?_eq_getElem hlt
  rcases h with h|⟨h1,h2⟩
  ·exact absurd hr (wf_code hs hm h)
  ·by_cases e:p=m
   ·subst e
    rw[hm] at hp
    cases hp
    exact h1
   ·exact ih (by omega) hr h2 p f (by omega) hp
theorem ckr_none {xs:List FC}{r:F3} (h:CkR (xs.map FC.d) r) (hr:r.1=0):(shapeV (xs.map FC.d)).1=0∧∀ (p:Nat) (f:FC),xs[p]?=some f→WF (xs.map FC.d) p f.d none:=by
 unfold CkR at h
 split at h
 ·rename_i hs
  exact ⟨hs,fun p f hp=>ckf_nons hs hr (m:=0) h p f (Nat.zero_le _) hp⟩
 ·rename_i hs
  rw[h] at hr
  exact absurd hr hs
theorem SR.ok.base {w:World}{B B':Nat}{z:SR} (h:z.ok w B) (hb:B'≤B):z.ok w B':=by
 unfold SR.ok at h ⊢
 split at h
 ·exact h
 ·exact ⟨h.1.mono hb,h.2.mono hb⟩
theorem StA.base {w:World}{B B' gS:Nat}{zs:List SR} (h:StA w B gS zs) (hb:B'≤B):StA w B' gS zs:=⟨h.blk,fun z hz=>(h.ok z hz).base hb,h.ap⟩
def StP (xs:List FC) (q:Int) (B:Nat) (e:Ending) (w':World):Prop :=
 ∃ r,CkR (xs.map FC.d) r∧(((r.1≠0∨q<0∨(xs.length:Int)≤q)∧e=.returned (.slice none 0 0)) ∨
  (r.1=0∧∃ (p:Nat) (f:FC) (k:Nat) (s:WkS) (gS:Nat) (zs:List SR),q=p∧xs[p]?=some f∧Runs (xs.map FC.d) f.d.ins k (startS f.d) (.ok s)∧e=.returned (.slice (some ⟨gS,0,none⟩) f.d.ins.length f.d.ins.length)∧StA w' B gS zs∧B≤gS∧zs.map SR.o=s.st))
theorem walk_s (xs:List FC) (ac:Option Addr) (lc cc p:Nat) (f:FC) (w:World) (hc:CodeAt w ac xs) (hlc:xs.length=lc) (hp:xs[p]?=some f) (hs:(shapeV (xs.map FC.d)).1=0) (hW:WF (xs.map FC.d) p f.d none) :
  Calls Tryz.prog 19 #[.agg #[.slice ac lc cc],.int .i64 p] w fun e w'=>(∃ k s gS zs,Runs (xs.map FC.d) f.d.ins k (startS f.d) (.ok s)∧e=.returned (.tuple #[.slice (some ⟨gS,0,none⟩) f.d.ins.length f.d.ins.length,FV 0 0 0])∧StA w' w.heap.size gS zs∧w.heap.size≤gS∧zs.map SR.o=s.st)∧Below w.heap.size w w':=by
 refine (walk_v xs ac lc cc p f w hc hlc hp hs).mono ?_
 rintro e w' ⟨⟨k,R,hR,hP⟩,hb⟩
 refine ⟨?_,hb⟩
 cases R with
 | error x=>cases hW.uniq (show WF (xs.map FC.d) p f.d (some ((x.1:Int),(p:Int),(x.2:Int))) from ⟨k,_,hR,rfl⟩)
 | ok s =>
  rcases hP with ⟨i,h1,h2⟩|⟨h1,gS,zs,h2,h3,h4,h5⟩
  ·cases hW.uniq (show WF (xs.map FC.d) p f.d (some (14,(p:Int),(i:Int))) from ⟨k,_,hR,.inl ⟨i,h1,rfl⟩⟩)
  ·exact ⟨k,s,gS,zs,hR,h2,h3,h4,h5⟩
theorem sstates_any (a:Option Addr) (len cap:Nat) (xs:List FC) (q:Int) (w:World) (H0:CodeAt w a xs) (hl:xs.length=len) :
  Calls Tryz.prog 11 #[.agg #[.slice a len cap],.int .i64 q] w fun e w'=>StP xs q w.heap.size e w'∧Below w.heap.size w w':=by
 have H:Hid (CodeAt w a xs):=H0
 have HL:Hid (xs.length=len):=hl
 clear H0 hl
 have hy:=bw1 w (.cells #[.slice a len cap] 31)
 have B0:Hid ((w.alloc (.cells #[.slice a len cap] 31)).heap[w.heap.size]?=some (.cells #[.slice a len cap] 31)):=qKz _ _
 obtain ⟨W2,hW2⟩:∃ W,w.alloc (.cells #[.slice a len cap] 31)=W:=⟨_,rfl⟩
 rw[hW2] at hy B0
 have HY:Hid (Below w.heap.size w W2):=hy
 have a9:W2.cell? ⟨w.heap.size,0,none⟩=some (.slice a len cap):=by rw[qAz B0.out];rfl
 have hlen:len≤1048576:=by have:=H.out.len;have:=HL.out;omega
 clear hy
 by_cases hex:∃ r,CkR (xs.map FC.d) r∧r.1=0
 ·obtain ⟨r0,hr0,hrz⟩:=hex
  obtain ⟨hs,hall⟩:=ckr_none hr0 hrz
  by_cases q0:q<0
  ·have t1:decide (q<0)=true:=by simpa using q0
   go_enter Tryz.func11,Tryz.ntmps11
   go_wp2_with (go_at_call 6;refine (scheck_any a len cap xs _ (H.out.later HY.out) HL.out).mono ?_;rintro e w2 ⟨⟨⟨rc,rp,ri⟩,hck,rfl⟩,hb1⟩;obtain rfl:rc=0:=(by have h:=hck.uniq hr0;have h2:=congrArg Prod.fst h;exact h2.trans hrz);obtain ⟨w3,hw3⟩:∃ w3,w2.alloc (FO 0 rp ri)=w3:=⟨_,rfl⟩;have HB4:Hid (Below w.heap.size w w3):=(by rw[←hw3];exact qJz (HY.out.trans (hb1.mono HY.out.size)) _);have E0:Hid (w3.heap[w.heap.size]?=some (.cells #[.slice a len cap] 31)):=(by rw[←hw3];exact qIz (qBz hb1 B0.out) _);have E2:Hid (w3.heap[w2.heap.size]?=some (FO 0 rp ri)):=(by rw[←hw3];exact qKz _ _);have a0:w3.cell? ⟨w.heap.size,0,none⟩=some (.slice a len cap):=(by rw[qAz E0.out];rfl);have v0:w3.cell? ⟨w2.heap.size,0,none⟩=some (.int .i64 0):=(by rw[qAz E2.out];rfl);have HCK:Hid (CkR (xs.map FC.d) (0,rp,ri)):=hck;clear hb1 hck a9)
   refine bodyPost_ret (v:=.slice none 0 0) (by simp[results,Tryz.results11,go_sem]) rfl ⟨⟨(0,rp,ri),HCK.out,.inl ⟨.inr (.inl q0),rfl⟩⟩,HB4.out⟩
  ·have t1:decide (q<0)=false:=by simpa using q0
   by_cases q1:q<len
   ·obtain ⟨p,hp⟩:∃ p:Nat,q=p:=⟨q.toNat,by omega⟩
    subst hp
    obtain ⟨f,hf⟩:∃ f,xs[p]?=some f:=⟨xs[p]'(by rw[HL.out];omega),by simp⟩
    have hW:=hall p f hf
    have HFm:Hid (xs[p]?=some f):=hf
    have HS:Hid ((shapeV (xs.map FC.d)).1=0):=hs
    have HW:Hid (WF (xs.map FC.d) p f.d none):=hW
    clear hf hW hall hs
    go_enter Tryz.func11,Tryz.ntmps11
    go_wp2_with (first
     | (go_at_call 6;refine (scheck_any a len cap xs _ (H.out.later HY.out) HL.out).mono ?_;rintro e w2 ⟨⟨⟨rc,rp,ri⟩,hck,rfl⟩,hb1⟩;obtain rfl:rc=0:=(by have h:=hck.uniq hr0;have h2:=congrArg Prod.fst h;exact h2.trans hrz);obtain ⟨w3,hw3⟩:∃ w3,w2.alloc (FO 0 rp ri)=w3:=⟨_,rfl⟩;have HB4:Hid (Below w.heap.size w w3):=(by rw[←hw3];exact qJz (HY.out.trans (hb1.mono HY.out.size)) _);have E0:Hid (w3.heap[w.heap.size]?=some (.cells #[.slice a len cap] 31)):=(by rw[←hw3];exact qIz (qBz hb1 B0.out) _);have E2:Hid (w3.heap[w2.heap.size]?=some (FO 0 rp ri)):=(by rw[←hw3];exact qKz _ _);have a0:w3.cell? ⟨w.heap.size,0,none⟩=some (.slice a len cap):=(by rw[qAz E0.out];rfl);have v0:w3.cell? ⟨w2.heap.size,0,none⟩=some (.int .i64 0):=(by rw[qAz E2.out];rfl);have HCK:Hid (CkR (xs.map FC.d) (0,rp,ri)):=hck;clear hb1 hck a9)
     | (go_at_call 19;refine (walk_s xs a len cap p f _ (H.out.later HB4.out) HL.out HFm.out HS.out HW.out).mono ?_;rintro e w5 ⟨⟨k,st,gS,zs,hR,rfl,hA,hgS,hm⟩,hb5⟩;have HB6:Hid (Below w.heap.size w w5):=HB4.out.trans (hb5.mono HB4.out.size)))
    refine bodyPost_ret (v:=.slice (some ⟨gS,0,none⟩) f.d.ins.length f.d.ins.length) (by simp[results,Tryz.results11,go_sem]) rfl ⟨⟨(0,rp,ri),HCK.out,.inr ⟨rfl,p,f,k,st,gS,zs,rfl,HFm.out,hR,rfl,?_,?_,hm⟩⟩,qJz HB6.out _⟩
    ·exact (hA.base HB4.out.size).later (bw1 _ _)
    ·exact Nat.le_trans HB4.out.size hgS
   ·go_enter Tryz.func11,Tryz.ntmps11
    go_wp2_with (go_at_call 6;refine (scheck_any a len cap xs _ (H.out.later HY.out) HL.out).mono ?_;rintro e w2 ⟨⟨⟨rc,rp,ri⟩,hck,rfl⟩,hb1⟩;obtain rfl:rc=0:=(by have h:=hck.uniq hr0;have h2:=congrArg Prod.fst h;exact h2.trans hrz);obtain ⟨w3,hw3⟩:∃ w3,w2.alloc (FO 0 rp ri)=w3:=⟨_,rfl⟩;have HB4:Hid (Below w.heap.size w w3):=(by rw[←hw3];exact qJz (HY.out.trans (hb1.mono HY.out.size)) _);have E0:Hid (w3.heap[w.heap.size]?=some (.cells #[.slice a len cap] 31)):=(by rw[←hw3];exact qIz (qBz hb1 B0.out) _);have E2:Hid (w3.heap[w2.heap.size]?=some (FO 0 rp ri)):=(by rw[←hw3];exact qKz _ _);have a0:w3.cell? ⟨w.heap.size,0,none⟩=some (.slice a len cap):=(by rw[qAz E0.out];rfl);have v0:w3.cell? ⟨w2.heap.size,0,none⟩=some (.int .i64 0):=(by rw[qAz E2.out];rfl);have HCK:Hid (CkR (xs.map FC.d) (0,rp,ri)):=hck;clear hb1 hck a9)
    refine bodyPost_ret (v:=.slice none 0 0) (by simp[results,Tryz.results11,go_sem]) rfl ⟨⟨(0,rp,ri),HCK.out,.inl ⟨.inr (.inr (by rw[HL.out];omega)),rfl⟩⟩,HB4.out⟩
 ·go_enter Tryz.func11,Tryz.ntmps11
  go_wp2_with (go_at_call 6;refine (scheck_any a len cap xs _ (H.out.later HY.out) HL.out).mono ?_;rintro e w2 ⟨⟨⟨rc,rp,ri⟩,hck,rfl⟩,hb1⟩;have rc0:rc≠0:=(fun h=>hex ⟨_,hck,h⟩);have t0:(rc != 0)=true:=(by simpa using rc0);obtain ⟨w3,hw3⟩:∃ w3,w2.alloc (FO rc rp ri)=w3:=⟨_,rfl⟩;have HB4:Hid (Below w.heap.size w w3):=(by rw[←hw3];exact qJz (HY.out.trans (hb1.mono HY.out.size)) _);have E0:Hid (w3.heap[w.heap.size]?=some (.cells #[.slice a len cap] 31)):=(by rw[←hw3];exact qIz (qBz hb1 B0.out) _);have E2:Hid (w3.heap[w2.heap.size]?=some (FO rc rp ri)):=(by rw[←hw3];exact qKz _ _);have a0:w3.cell? ⟨w.heap.size,0,none⟩=some (.slice a len cap):=(by rw[qAz E0.out];rfl);have v0:w3.cell? ⟨w2.heap.size,0,none⟩=some (.int .i64 rc):=(by rw[qAz E2.out];rfl);have HCK:Hid (CkR (xs.map FC.d) (rc,rp,ri)):=hck;clear hb1 hck a9)
  refine bodyPost_ret (v:=.slice none 0 0) (by simp[results,Tryz.results11,go_sem]) rfl ⟨⟨(rc,rp,ri),HCK.out,.inl ⟨.inl rc0,rfl⟩⟩,HB4.out⟩
theorem istates_any (a:Option Addr) (len cap:Nat) (xs:List FC) (q:Int) (w:World) (H0:CodeAt w a xs) (hl:xs.length=len) (hlay:LayAt w) :
  Calls Tryz.prog 12 #[.agg #[.slice a len cap],.int .i64 q] w fun e w'=>StP xs q w.heap.size e w'∧Below w.heap.size w w':=by
 have hy:=bw1 w (CO (.slice a len cap))
 have hlen:len≤1048576:=by rw[←hl];exact H0.len
 have HL:Hid (xs.length=len):=hl
 go_enter Tryz.func12,Tryz.ntmps12
 go_wp2_with fail
 refine (verify_any a len cap xs _ (H0.later hy) hl (hlay.later hy)).mono ?_
 rintro e w1 ⟨hV,hx⟩
 have hB:=hy.trans (hx.mono hy.size)
 have HB:Hid (Below w.heap.size w w1):=hB
 clear hx hB H0 hlay hl
 rcases hV.split with ⟨⟨rc,rp,ri⟩,hck,hne,rfl⟩|⟨hck,gA,rfl,hR⟩
 ·have HP:Hid (StP xs q w.heap.size (.returned (.slice none 0 0)) w1):=by
   refine ⟨(rc,rp,ri),hck,.inl ⟨.inl ?_,rfl⟩⟩
   rcases hne with ⟨h1,h2⟩|⟨h1,p,f,h2,h3⟩
   ·rw[h2];exact h1
   ·exact wf_code h1 h2 h3
  clear hV hck hne hy
  go_wp2_with fail
  go_ret
  exact ⟨HP.out,HB.out⟩
 ·have HCK:Hid (CkR (xs.map FC.d) (0,0,0)):=hck
  have HR:Hid (VeR xs (w.alloc (CO (.slice a len cap))).heap.size gA xs.length w1):=hR
  clear hV hck hR hy
  have hwr:IntKind.i64.wrap ((len:Int)-1)=(len:Int)-1:=by rw[IntKind.wrap_i64];omega
  cases hin:inR q 0 ((len:Int)-1) with
  | false =>
   have HP:Hid (StP xs q w.heap.size (.returned (.slice none 0 0)) w1):=by
    refine ⟨(0,0,0),HCK.out,.inl ⟨.inr ?_,rfl⟩⟩
    unfold inR at hin
    rw[HL.out]
    by_cases h1:0≤q
    ·have h2:¬ q≤(len:Int)-1:=fun h2=>by simp[h1,h2] at hin
     right;omega
    ·left;omega
   go_wp2_with (go_at_call 24;refine (wi_any _ _ _ _).mono ?_;rw[hin];rintro e w2 ⟨rfl,rfl⟩)
   go_ret
   exact ⟨HP.out,HB.out⟩
  | true =>
   have hq:0≤q∧q≤(len:Int)-1:=by unfold inR at hin;simpa using hin
   obtain ⟨p,rfl⟩:∃ p:Nat,q=p:=⟨q.toNat,by omega⟩
   have hpl:p<len:=by omega
   obtain ⟨f,hf⟩:∃ f,xs[p]?=some f:=⟨xs[p]'(by rw[HL.out];exact hpl),by simp⟩
   obtain ⟨k,s,gS,zs,h1,h2,h3,h4,h5⟩:=HR.out p f (by rw[HL.out];exact hpl) hf
   have hB0:w.heap.size≤(w.alloc (CO (.slice a len cap))).heap.size:=by simp
   have HP:Hid (StP xs (p:Int) w.heap.size (.returned (.slice (some ⟨gS,0,none⟩) f.d.ins.length f.d.ins.length)) w1):=⟨(0,0,0),HCK.out,.inr ⟨rfl,p,f,k,s,gS,zs,rfl,hf,h1,rfl,h3.base hB0,Nat.le_trans hB0 h4,h5⟩⟩
   clear hq hf h1 h3 h4 h5 hB0
   go_wp2_with (go_at_call 24;refine (wi_any _ _ _ _).mono ?_;rw[hin];rintro e w2 ⟨rfl,rfl⟩)
   go_ret
   exact ⟨HP.out,HB.out⟩
theorem eqnum_any (a a':Option Addr) (n c c':Nat) (xs:List Int) (w:World) (hn:xs.length=n) (h1:SlA w 1 intC a xs) (h2:SlA w 1 intC a' xs) (ln:n≤1048576) :
  Calls Tryz.prog 49 #[.slice a n c,.slice a' n c'] w fun e w'=>e=.returned (.bool true)∧Below w.heap.size w w':=by
 have H1:Hid (SlA w 1 intC a xs):=h1
 have H2:Hid (SlA w 1 intC a' xs):=h2
 have HN:Hid (xs.length=n):=hn
 clear h1 h2 hn
 go_enter Tryz.func49,Tryz.ntmps49
 go_wp2_with fail
 go_loopw [5] (fun i wr=>∃ m:Nat,m≤n∧i=.int .i64 m∧Hid (Below w.heap.size w wr)) (fun i _=>n-(intOf i).toNat)
 case atStart=>exact ⟨0,Nat.zero_le _,rfl,Below.refl _ _⟩
 case round =>
  obtain ⟨m,hm,rfl,HB⟩:=hrel
  by_cases k1:m<n
  ·obtain ⟨y,hy⟩:∃ y,xs[m]?=some y:=⟨xs[m]'(by rw[HN.out];exact k1),by simp⟩
   obtain ⟨b,off,rfl,hbl,hc⟩:=H1.out m y hy
   obtain ⟨b',off',rfl,hbl',hc'⟩:=H2.out m y hy
   have c0:wr.cell? ⟨b,off+m,none⟩=some (.int .i64 y):=by have:=cell_later HB.out (hc 0 _ rfl);simpa using this
   have c1:wr.cell? ⟨b',off'+m,none⟩=some (.int .i64 y):=by have:=cell_later HB.out (hc' 0 _ rfl);simpa using this
   clear hc hc' hy hbl hbl'
   go_wp2_with fail
   go_quiet (fail)
   go_wp2_with fail
   go_roundw
   case rel=>exact ⟨m+1,by omega,by go_num,Below.drewN HB.out _⟩
   case measure=>simp[intOf];omega
  ·go_wp2_with fail
   go_ret
   exact ⟨rfl,HB.out⟩
theorem eqg_any (g:GD) (w:World):Calls Tryz.prog 94 #[.agg #[.bool g.t,.int .i64 g.k,.int .i64 g.h],.agg #[.bool g.t,.int .i64 g.k,.int .i64 g.h]] w fun e w'=>e=.returned (.bool true)∧Below w.heap.size w w':=by
 obtain ⟨t,k,h⟩:=g
 cases t
 all_goals
  go_enter Tryz.func94,Tryz.ntmps94
  go_wp2_with fail
  go_ret
  exact ⟨rfl,bw2 _ _ _⟩
theorem eqgs_any (a a':Option Addr) (n c c':Nat) (xs:List GD) (w:World) (hn:xs.length=n) (h1:SlA w 3 GD.cells a xs) (h2:SlA w 3 GD.cells a' xs) (ln:n≤1048576) :
  Calls Tryz.prog 50 #[.slice a n c,.slice a' n c'] w fun e w'=>e=.returned (.bool true)∧Below w.heap.size w w':=by
 have H1:Hid (SlA w 3 GD.cells a xs):=h1
 have H2:Hid (SlA w 3 GD.cells a' xs):=h2
 have HN:Hid (xs.length=n):=hn
 clear h1 h2 hn
 go_enter Tryz.func50,Tryz.ntmps50
 go_wp2_with fail
 go_loopw [5] (fun i wr=>∃ m:Nat,m≤n∧i=.int .i64 m∧Hid (Below w.heap.size w wr)) (fun i _=>n-(intOf i).toNat)
 case atStart=>exact ⟨0,Nat.zero_le _,rfl,Below.refl _ _⟩
 case round =>
  obtain ⟨m,hm,rfl,HB⟩:=hrel
  by_cases k1:m<n
  ·obtain ⟨y,hy⟩:∃ y,xs[m]?=some y:=⟨xs[m]'(by rw[HN.out];exact k1),by simp⟩
   obtain ⟨b,off,rfl,hbl,hc⟩:=H1.out m y hy
   obtain ⟨b',off',rfl,hbl',hc'⟩:=H2.out m y hy
   have c0:wr.cell? ⟨b,off+m*3,none⟩=some (.bool y.t):=cell_later HB.out (hc 0 _ rfl)
   have c1:wr.cell? ⟨b,off+m*3+1,none⟩=some (.int .i64 y.k):=cell_later HB.out (hc 1 _ rfl)
   have c2:wr.cell? ⟨b,off+m*3+2,none⟩=some (.int .i64 y.h):=cell_later HB.out (hc 2 _ rfl)
   have d0:wr.cell? ⟨b',off'+m*3,none⟩=some (.bool y.t):=cell_later HB.out (hc' 0 _ rfl)
   have d1:wr.cell? ⟨b',off'+m*3+1,none⟩=some (.int .i64 y.k):=cell_later HB.out (hc' 1 _ rfl)
   have d2:wr.cell? ⟨b',off'+m*3+2,none⟩=some (.int .i64 y.h):=cell_later HB.out (hc' 2 _ rfl)
   clear hc hc' hy hbl hbl'
   go_wp2_with fail
   go_region_with (go_at_call 94;refine (eqg_any y _).mono ?_;rintro e w1 ⟨rfl,hx⟩)
   all_goals
    have HB2:Hid (Below w.heap.size w w1):=HB.out.trans ((below_d hx).mono HB.out.size)
    clear hx
    go_wp2_with fail
    go_roundw
    case rel=>exact ⟨m+1,by omega,by go_num,HB2⟩
    case measure=>simp[intOf];omega
  ·go_wp2_with fail
   go_ret
   exact ⟨rfl,HB.out⟩
theorem eqst_any (r:Bool) (a a' b b':Option Addr) (c c' d d':Nat) (xs:List Int) (gs:List GD) (w:World) (h1:SlA w 1 intC a xs) (h2:SlA w 1 intC a' xs) (g1:SlA w 3 GD.cells b gs) (g2:SlA w 3 GD.cells b' gs) (l1:xs.length≤1048576) (l2:gs.length≤1048576) :
  Calls Tryz.prog 25 #[.agg #[.bool r,.slice a xs.length c,.slice b gs.length d],.agg #[.bool r,.slice a' xs.length c',.slice b' gs.length d']] w fun e w'=>e=.returned (.bool true)∧Below w.heap.size w w':=by
 have H1:Hid (SlA w 1 intC a xs):=h1
 have H2:Hid (SlA w 1 intC a' xs):=h2
 have G1:Hid (SlA w 3 GD.cells b gs):=g1
 have G2:Hid (SlA w 3 GD.cells b' gs):=g2
 clear h1 h2 g1 g2
 cases r
 all_goals
  go_enter Tryz.func25,Tryz.ntmps25
  go_wp2_with (first
   | (go_at_call 49;refine (eqnum_any a a' xs.length c c' xs _ rfl (H1.out.later (bw2 _ _ _)) (H2.out.later (bw2 _ _ _)) l1).mono ?_;rintro e w1 ⟨rfl,hx⟩;have HB1:Hid (Below w.heap.size w w1):=(bw2 _ _ _).trans (hx.mono (by simp;omega));have u2:=qBz hx (qIz (qKz _ _) _);have u3:=qBz hx (qNz (k:=w.heap.size+1) (by simp) _);have v2:=qAz u2 2;have v3:=qAz u3 2;simp only[List.getElem?_toArray,List.getElem?_cons_succ,List.getElem?_cons_zero] at v2 v3;clear hx u2 u3)
   | (go_at_call 50;refine (eqgs_any b b' gs.length d d' gs _ rfl (G1.out.later HB1.out) (G2.out.later HB1.out) l2).mono ?_;rintro e w2 ⟨rfl,hx⟩;have HB2:Hid (Below w.heap.size w w2):=HB1.out.trans (hx.mono HB1.out.size);clear hx))
  go_ret
  exact ⟨rfl,HB2.out⟩
def tsO:Option SD→List Int
 | none=>[]
 | some x=>x.ts
def gsO:Option SD→List GD
 | none=>[]
 | some x=>x.gs
theorem SR.ok.lies {w:World}{B:Nat}{z:SR} (h:z.ok w B):∃ a c b d,z.tv=.slice a (tsO z.o).length c∧SlA w 1 intC a (tsO z.o)∧z.gv=.slice b (gsO z.o).length d∧SlA w 3 GD.cells b (gsO z.o):=by
 unfold SR.ok at h
 split at h
 ·rename_i e
  rw[e]
  exact ⟨none,0,none,0,h.1,SlA.nil _ _ _ _,h.2,SlA.nil _ _ _ _⟩
 ·rename_i x e
  rw[e]
  obtain ⟨a,c,e1,s1⟩:=ORow.lies h.1 (fun y=>intC_len y)
  obtain ⟨b,d,e2,s2⟩:=ORow.lies h.2 GD.len
  exact ⟨a,c,b,d,e1,s1,e2,s2⟩
theorem eqss_nil (w:World):Calls Tryz.prog 13 #[.slice none 0 0,.slice none 0 0] w fun e w'=>e=.returned (.bool true)∧Below w.heap.size w w':=by
 go_enter Tryz.func13,Tryz.ntmps13
 go_wp2_with fail
 refine wp_loop_rounds 1 ?_
 rw[rounds_succ]
 go_wp2_with fail
 go_ret
 exact ⟨rfl,Below.refl _ _⟩
theorem eqss_any (B B' gS gS' n:Nat) (zs zs':List SR) (w:World) (h:StA w B gS zs) (h':StA w B' gS' zs') (hn:zs.length=n) (hm:zs.map SR.o=zs'.map SR.o) (ln:n≤6000) (hb:∀ z∈zs,(tsO z.o).length≤1048576∧(gsO z.o).length≤1048576) :
  Calls Tryz.prog 13 #[.slice (some ⟨gS,0,none⟩) n n,.slice (some ⟨gS',0,none⟩) n n] w fun e w'=>e=.returned (.bool true)∧Below w.heap.size w w':=by
 have H:Hid (StA w B gS zs):=h
 have H':Hid (StA w B' gS' zs'):=h'
 have HN:Hid (zs.length=n):=hn
 have HM:Hid (zs.map SR.o=zs'.map SR.o):=hm
 have HBD:Hid (∀ z∈zs,(tsO z.o).length≤1048576∧(gsO z.o).length≤1048576):=hb
 clear h h' hn hm hb
 go_enter Tryz.func13,Tryz.ntmps13
 go_wp2_with fail
 go_loopw [5] (fun i wr=>∃ m:Nat,m≤n∧i=.int .i64 m∧Hid (Below w.heap.size w wr)) (fun i _=>n-(intOf i).toNat)
 case atStart=>exact ⟨0,Nat.zero_le _,rfl,Below.refl _ _⟩
 case round =>
  obtain ⟨m,hm,rfl,HB⟩:=hrel
  by_cases k1:m<n
  ·obtain ⟨z,hz⟩:∃ z,zs[m]?=some z:=⟨zs[m]'(by rw[HN.out];exact k1),by simp⟩
   obtain ⟨z',hz'⟩:∃ z',zs'[m]?=some z':=by
    have h9:=congrArg List.length HM.out
    simp only[List.length_map] at h9
    exact ⟨zs'[m]'(by rw[←h9,HN.out];exact k1),by simp⟩
   have ho:z'.o=z.o:=by
    have h9:=congrArg (fun l=>l[m]?) HM.out
    simp only[List.getElem?_map,hz,hz',Option.map_some,Option.some.injEq] at h9
    exact h9.symm
   have hr:=H.out.later HB.out
   have hr':=H'.out.later HB.out
   obtain ⟨a,c,b,d,e1,s1,e2,s2⟩:=(hr.ok z (List.mem_of_getElem? hz)).lies
   obtain ⟨a',c',b',d',e1',s1',e2',s2'⟩:=(hr'.ok z' (List.mem_of_getElem? hz')).lies
   rw[ho] at e1' s1' e2' s2'
   have HEQ:Hid (∀ W,Below wr.heap.size wr W→Calls Tryz.prog 25 #[.agg #[.bool z.o.isSome,.slice a (tsO z.o).length c,.slice b (gsO z.o).length d],.agg #[.bool z.o.isSome,.slice a' (tsO z.o).length c',.slice b' (gsO z.o).length d']] W fun e w'=>e=.returned (.bool true)∧Below W.heap.size W w'):=fun W hW =>
    eqst_any z.o.isSome a a' b b' c c' d d' (tsO z.o) (gsO z.o) W (s1.later hW) (s1'.later hW) (s2.later hW) (s2'.later hW) (HBD.out z (List.mem_of_getElem? hz)).1 (HBD.out z (List.mem_of_getElem? hz)).2
   have c0:=hr.cell hz (j:=0) (v:=.bool z.o.isSome) rfl
   have c1:=hr.cell hz (j:=1) (v:=z.tv) rfl
   have c2:=hr.cell hz (j:=2) (v:=z.gv) rfl
   have d0:=hr'.cell hz' (j:=0) (v:=.bool z'.o.isSome) rfl
   have d1:=hr'.cell hz' (j:=1) (v:=z'.tv) rfl
   have d2:=hr'.cell hz' (j:=2) (v:=z'.gv) rfl
   rw[ho] at d0
   rw[e1] at c1
   rw[e2] at c2
   rw[e1'] at d1
   rw[e2'] at d2
   simp only[Nat.add_zero] at c0 d0
   clear hr hr' hz hz' ho e1 e2 e1' e2' s1 s2 s1' s2'
   generalize z.o.isSome=r at *
   go_wp2_with fail
   go_region_with (go_at_call 25;refine (HEQ.out _ (below_d (Below.refl _ _))).mono ?_;rintro e w1 ⟨rfl,hx⟩)
   all_goals
    have HB2:Hid (Below w.heap.size w w1):=HB.out.trans ((below_d hx).mono HB.out.size)
    clear hx
    go_wp2_with fail
    go_roundw
    case rel=>exact ⟨m+1,by omega,by go_num,HB2⟩
    case measure=>simp[intOf];omega
  ·go_wp2_with fail
   go_ret
   exact ⟨rfl,HB.out⟩
def mkI (k n:Nat):List Int:=(List.range n).map fun i=>((k+i:Nat):Int)
theorem mkI_len (k n:Nat):(mkI k n).length=n:=by simp[mkI]
theorem mkI_get {k n i:Nat} (h:i<n):(mkI k n)[i]?=some ((k+i:Nat):Int):=by simp[mkI,h]
theorem mkI_set (k n:Nat) (ts:List Int) (m:Nat) (hm:m<ts.length):(mkI k m++ts.drop m).set m ((k+m:Nat):Int)=mkI k (m+1)++ts.drop (m+1):=by
 apply List.ext_getElem?
 intro i
 rw[List.getElem?_set]
 by_cases h1:m=i
 ·subst h1
  rw[if_pos rfl,if_pos (by simp[mkI_len];omega),List.getElem?_append_left (by rw[mkI_len];omega),mkI_get (by omega)]
 ·rw[if_neg h1]
  by_cases h2:i<m
  ·rw[List.getElem?_append_left (by rw[mkI_len];exact h2),List.getElem?_append_left (by rw[mkI_len];omega),mkI_get h2,mkI_get (by omega)]
  ·rw[List.getElem?_append_right (by rw[mkI_len];omega),List.getElem?_append_right (by rw[mkI_len];omega),mkI_len,mkI_len,List.getElem?_drop,List.getElem?_drop]
   congr 1
   omega
theorem mki_any (B k:Nat) (tv:Value) (ts:List Int) (w:World) (h:OI w B tv ts) (hl:ts.length≤1048576) (hk:k≤1000000000000000) :
  Calls Tryz.prog 27 #[tv,.int .i64 k] w fun e w'=>e=.returned (.int .i64 ((k+ts.length:Nat):Int))∧OI w' B tv (mkI k ts.length)∧ButL tv.ownBlock.toList w w':=by
 have H:Hid (OI w B tv ts):=h
 obtain ⟨a,c,rfl⟩:=ORow.val (cells:=intC) h
 clear h
 obtain ⟨n,hn⟩:∃ n,ts.length=n:=⟨_,rfl⟩
 have HN:Hid (ts.length=n):=hn
 rw[hn] at hl H ⊢
 clear hn
 go_enter Tryz.func27,Tryz.ntmps27
 go_wp2_with fail
 go_loopw [1,5] (fun kk i wr=>∃ m:Nat,m≤n∧kk=.int .i64 ((k+m:Nat):Int)∧i=.int .i64 m∧Hid (OI wr B (.slice a n c) (mkI k m++ts.drop m))∧Hid (ButL (Value.slice a n c).ownBlock.toList w wr)) (fun _ i _=>n-(intOf i).toNat)
 case atStart=>exact ⟨0,Nat.zero_le _,rfl,rfl,(show OI _ _ _ _ by simpa [mkI] using H.out),ButL.refl _ _⟩
 case round =>
  obtain ⟨m,hm,rfl,rfl,HO,HBT⟩:=hrel
  by_cases k1:m<n
  ·have hlen:(mkI k m++ts.drop m).length=n:=by simp[mkI_len,HN.out];omega
   obtain ⟨g,cp,e⟩:=HO.out.open' (by omega)
   rw[hlen] at e
   injection e with e1 e2 e3
   subst e1
   clear e2 e3
   obtain ⟨y,hy⟩:∃ y,(mkI k m++ts.drop m)[m]?=some y:=⟨(mkI k m++ts.drop m)[m]'(by omega),by simp⟩
   have c0:=HO.out.cell hy
   have z0:=HO.out.froz m
   have HO2:Hid (OI (wr.setCell ⟨g,m,none⟩ (.int .i64 ((k+m:Nat):Int))) B (.slice (some ⟨g,0,none⟩) n c) (mkI k (m+1)++ts.drop (m+1))):=by
    have h9:=HO.out.set m ((k+m:Nat):Int) (by omega)
    rw[mkI_set k n ts m (by rw[HN.out];exact k1)] at h9
    exact h9
   have HB2:Hid (ButL (Value.slice (some ⟨g,0,none⟩) n c).ownBlock.toList w (wr.setCell ⟨g,m,none⟩ (.int .i64 ((k+m:Nat):Int)))):=HBT.out.set (by simp[Value.ownBlock]) _ _
   have hwr:IntKind.i64.wrap (((k+m:Nat):Int)+1)=((k+(m+1):Nat):Int):=by rw[IntKind.wrap_i64];omega
   obtain ⟨K,hK⟩:∃ K:Int,((k+m:Nat):Int)=K:=⟨_,rfl⟩
   obtain ⟨K1,hK1⟩:∃ K:Int,((k+(m+1):Nat):Int)=K:=⟨_,rfl⟩
   rw[hK] at HO2 HB2 hwr ⊢
   rw[hK1] at hwr
   have HK1:Hid (((k+(m+1):Nat):Int)=K1):=hK1
   clear HO HBT hy hlen hK hK1
   go_wp2_with fail
   go_roundw
   case rel=>exact ⟨m+1,by omega,by rw[HK1.out],by go_num,HO2,HB2⟩
   case measure=>simp[intOf];omega
  ·have e:m=n:=by omega
   subst e
   have HE:Hid (mkI k m++ts.drop m=mkI k m):=by show _=_;rw[List.drop_of_length_le (by rw[HN.out];exact Nat.le_refl _),List.append_nil]
   rw[HE.out] at HO
   go_wp2_with fail
   go_ret
   exact ⟨rfl,HO.out,HBT.out⟩
theorem hldi_any (k n c:Nat) (a:Option Addr) (w:World) (h:SlA w 1 intC a (mkI k n)) (hl:n≤1048576) (hk:k≤1000000000000000) :
  Calls Tryz.prog 29 #[.slice a n c,.int .i64 k] w fun e w'=>e=.returned (.int .i64 ((k+n:Nat):Int))∧Below w.heap.size w w':=by
 have H:Hid (SlA w 1 intC a (mkI k n)):=h
 clear h
 go_enter Tryz.func29,Tryz.ntmps29
 go_wp2_with fail
 go_loopw [1,5] (fun kk i wr=>∃ m:Nat,m≤n∧kk=.int .i64 ((k+m:Nat):Int)∧i=.int .i64 m∧Hid (Below w.heap.size w wr)) (fun _ i _=>n-(intOf i).toNat)
 case atStart=>exact ⟨0,Nat.zero_le _,rfl,rfl,Below.refl _ _⟩
 case round =>
  obtain ⟨m,hm,rfl,rfl,HB⟩:=hrel
  by_cases k1:m<n
  ·obtain ⟨b,off,rfl,hbl,hc⟩:=H.out m _ (mkI_get k1)
   have c0:wr.cell? ⟨b,off+m,none⟩=some (.int .i64 ((k+m:Nat):Int)):=by have:=cell_later HB.out (hc 0 _ rfl);simpa using this
   have hwr:IntKind.i64.wrap (((k+m:Nat):Int)+1)=((k+(m+1):Nat):Int):=by rw[IntKind.wrap_i64];omega
   obtain ⟨K,hK⟩:∃ K:Int,((k+m:Nat):Int)=K:=⟨_,rfl⟩
   obtain ⟨K1,hK1⟩:∃ K:Int,((k+(m+1):Nat):Int)=K:=⟨_,rfl⟩
   rw[hK] at c0 hwr ⊢
   rw[hK1] at hwr
   have HK1:Hid (((k+(m+1):Nat):Int)=K1):=hK1
   clear hK hK1 hc hbl
   go_wp2_with fail
   first
    | (go_roundw
       case rel=>exact ⟨m+1,by omega,by rw[HK1.out],by go_num,HB⟩
       case measure=>simp[intOf];omega)
    | (go_quiet (fail)
       go_wp2_with fail
       go_roundw
       case rel=>exact ⟨m+1,by omega,by rw[HK1.out],by go_num,Below.drewN HB.out _⟩
       case measure=>simp[intOf];omega)
  ·have e:m=n:=by omega
   subst e
   go_wp2_with fail
   go_ret
   exact ⟨rfl,HB.out⟩
theorem flat_setg (l:List GD):∀ (i:Nat) (z:GD),i<l.length→(((l.flatMap GD.cells).set (i*3) (.bool z.t)).set (i*3+1) (.int .i64 z.k)).set (i*3+2) (.int .i64 z.h)=(l.set i z).flatMap GD.cells:=by
 induction l with
 | nil=>intro i z h;simp at h
 | cons y l ih =>
  intro i z h
  cases i with
  | zero=>simp[GD.cells]
  | succ i =>
   have:=ih i z (by simpa using h)
   rw[show (i+1)*3=i*3+3 by omega]
   simp only[List.flatMap_cons,List.set_cons_succ]
   rw[←this]
   rw[List.set_append_right _ _ (by simp[GD.cells]),List.set_append_right _ _ (by simp[GD.cells]),List.set_append_right _ _ (by simp[GD.cells])]
   simp only[GD.len]
   rw[show i*3+3-3=i*3 by omega,show i*3+3+1-3=i*3+1 by omega,show i*3+3+2-3=i*3+2 by omega]
theorem gset {w:World}{B g n cap:Nat}{gs:List GD} (h:ORow w B 113 3 GD.cells (.slice (some ⟨g,0,none⟩) n cap) gs) (i:Nat) (z:GD) (hi:i<gs.length):ORow (((w.setCell ⟨g,i*3,none⟩ (.bool z.t)).setCell ⟨g,i*3+1,none⟩ (.int .i64 z.k)).setCell ⟨g,i*3+2,none⟩ (.int .i64 z.h)) B 113 3 GD.cells (.slice (some ⟨g,0,none⟩) n cap) (gs.set i z):=by
 obtain ⟨h1,h2⟩:=h
 refine ⟨by rw[←flat_setg gs i z hi];simpa using h1,?_⟩
 rcases h2 with ⟨e,_⟩|⟨g',c',cur,e,hb,hg,hl,hm,hs,ht⟩
 ·cases e
 ·cases e
  rw[List.length_set]
  refine .inr ⟨g,_,((cur.setIfInBounds (i*3) (.bool z.t)).setIfInBounds (i*3+1) (.int .i64 z.k)).setIfInBounds (i*3+2) (.int .i64 z.h),rfl,hb,qLz (qLz (qLz hg _ _) _ _) _ _,hl,hm,by simpa using hs,?_⟩
  rw[Array.toList_setIfInBounds,Array.toList_setIfInBounds,Array.toList_setIfInBounds,List.take_set,List.take_set,List.take_set,ht]
  exact flat_setg gs i z hi
def gM (k:Nat):GD:=⟨decide ((k:Int) % 3=0),(k:Int)+1,(k:Int)+1+1⟩
def mkG (k n:Nat):List GD:=(List.range n).map fun i=>gM (k+3*i)
theorem mkG_len (k n:Nat):(mkG k n).length=n:=by simp[mkG]
theorem mkG_get {k n i:Nat} (h:i<n):(mkG k n)[i]?=some (gM (k+3*i)):=by simp[mkG,h]
theorem mkG_set (k:Nat) (gs:List GD) (m:Nat) (hm:m<gs.length):(mkG k m++gs.drop m).set m (gM (k+3*m))=mkG k (m+1)++gs.drop (m+1):=by
 apply List.ext_getElem?
 intro i
 rw[List.getElem?_set]
 by_cases h1:m=i
 ·subst h1
  rw[if_pos rfl,if_pos (by simp[mkG_len];omega),List.getElem?_append_left (by rw[mkG_len];omega),mkG_get (by omega)]
 ·rw[if_neg h1]
  by_cases h2:i<m
  ·rw[List.getElem?_append_left (by rw[mkG_len];exact h2),List.getElem?_append_left (by rw[mkG_len];omega),mkG_get h2,mkG_get (by omega)]
  ·rw[List.getElem?_append_right (by rw[mkG_len];omega),List.getElem?_append_right (by rw[mkG_len];omega),mkG_len,mkG_len,List.getElem?_drop,List.getElem?_drop]
   congr 1
   omega
theorem mkg_any (B k:Nat) (tv:Value) (ts:List GD) (w:World) (h:ORow w B 113 3 GD.cells tv ts) (hl:ts.length≤1048576) (h0:0<k) (hk:k≤1000000000000000) :
  Calls Tryz.prog 28 #[tv,.int .i64 k] w fun e w'=>e=.returned (.int .i64 ((k+3*ts.length:Nat):Int))∧ORow w' B 113 3 GD.cells tv (mkG k ts.length)∧ButL tv.ownBlock.toList w w':=by
 have H:Hid (ORow w B 113 3 GD.cells tv ts):=h
 obtain ⟨a,c,rfl⟩:=ORow.val h
 clear h
 obtain ⟨n,hn⟩:∃ n,ts.length=n:=⟨_,rfl⟩
 have HN:Hid (ts.length=n):=hn
 rw[hn] at hl H ⊢
 clear hn
 go_enter Tryz.func28,Tryz.ntmps28
 go_wp2_with fail
 go_loopw [1,5] (fun kk i wr=>∃ m K:Nat,m≤n∧kk=.int .i64 (K:Int)∧i=.int .i64 m∧0<K∧K≤2000000000000000∧Hid (K=k+3*m)∧Hid (ORow wr B 113 3 GD.cells (.slice a n c) (mkG k m++ts.drop m))∧Hid (ButL (Value.slice a n c).ownBlock.toList w wr)) (fun _ i _=>n-(intOf i).toNat)
 case atStart=>exact ⟨0,k,Nat.zero_le _,rfl,rfl,h0,by omega,rfl,(show ORow _ _ _ _ _ _ _ by simpa [mkG] using H.out),ButL.refl _ _⟩
 case round =>
  obtain ⟨m,K,hm,rfl,rfl,hK0,hK1,HK,HO,HBT⟩:=hrel
  by_cases k1:m<n
  ·have hlen:(mkG k m++ts.drop m).length=n:=by simp[mkG_len,HN.out];omega
   obtain ⟨g,cp,e,-,-,hsl,hfz,-⟩:=ORow.open HO.out GD.len (by omega)
   rw[hlen] at e
   injection e with e1 e2 e3
   subst e1
   clear e2 e3
   obtain ⟨y,hy⟩:∃ y,(mkG k m++ts.drop m)[m]?=some y:=⟨(mkG k m++ts.drop m)[m]'(by omega),by simp⟩
   obtain ⟨b,off,e,-,hc⟩:=hsl m y hy
   cases e
   have c0:wr.cell? ⟨g,m*3,none⟩=some (.bool y.t):=by simpa using hc 0 _ rfl
   have c1:wr.cell? ⟨g,m*3+1,none⟩=some (.int .i64 y.k):=by simpa using hc 1 _ rfl
   have c2:wr.cell? ⟨g,m*3+2,none⟩=some (.int .i64 y.h):=by simpa using hc 2 _ rfl
   have HO2:Hid (ORow (((wr.setCell ⟨g,m*3,none⟩ (.bool (decide ((K:Int) % 3=0)))).setCell ⟨g,m*3+1,none⟩ (.int .i64 ((K:Int)+1))).setCell ⟨g,m*3+2,none⟩ (.int .i64 ((K:Int)+1+1))) B 113 3 GD.cells (.slice (some ⟨g,0,none⟩) n c) (mkG k (m+1)++ts.drop (m+1))):=by
    have h9:=gset HO.out m (gM (k+3*m)) (by omega)
    rw[mkG_set k ts m (by rw[HN.out];exact k1),← HK.out] at h9
    exact h9
   have HB2:Hid (ButL (Value.slice (some ⟨g,0,none⟩) n c).ownBlock.toList w (((wr.setCell ⟨g,m*3,none⟩ (.bool (decide ((K:Int) % 3=0)))).setCell ⟨g,m*3+1,none⟩ (.int .i64 ((K:Int)+1))).setCell ⟨g,m*3+2,none⟩ (.int .i64 ((K:Int)+1+1)))):=((HBT.out.set (by simp[Value.ownBlock]) _ _).set (by simp[Value.ownBlock]) _ _).set (by simp[Value.ownBlock]) _ _
   clear HO HBT hy hlen hc hsl
   go_wp2_with fail
   go_roundw
   case rel=>exact ⟨m+1,K+3,by omega,by congr 1 <;> omega,by go_num,by omega,by have:=HK.out;omega,by have:=HK.out;show K+3=_;omega,HO2,HB2⟩
   case measure=>simp[intOf];omega
  ·have e:m=n:=by omega
   subst e
   have HE:Hid (mkG k m++ts.drop m=mkG k m):=by show _=_;rw[List.drop_of_length_le (by rw[HN.out];exact Nat.le_refl _),List.append_nil]
   rw[HE.out] at HO
   have HR:Hid ((K:Int)=((k+3*m:Nat):Int)):=by have:=HK.out;show _=_;rw[this]
   clear HK
   go_wp2_with fail
   go_ret
   exact ⟨by show Ending.returned (.int .i64 (K:Int))=_;rw[HR.out],HO.out,HBT.out⟩
theorem hldg_any (k n c:Nat) (a:Option Addr) (w:World) (h:SlA w 3 GD.cells a (mkG k n)) (hl:n≤1048576) (h0:0<k) (hk:k≤1000000000000000) :
  Calls Tryz.prog 30 #[.slice a n c,.int .i64 k] w fun e w'=>e=.returned (.int .i64 ((k+3*n:Nat):Int))∧Below w.heap.size w w':=by
 have H:Hid (SlA w 3 GD.cells a (mkG k n)):=h
 clear h
 go_enter Tryz.func30,Tryz.ntmps30
 go_wp2_with fail
 go_loopw [1,5] (fun kk i wr=>∃ m K:Nat,m≤n∧kk=.int .i64 (K:Int)∧i=.int .i64 m∧0<K∧K≤2000000000000000∧Hid (K=k+3*m)∧Hid (Below w.heap.size w wr)) (fun _ i _=>n-(intOf i).toNat)
 case atStart=>exact ⟨0,k,Nat.zero_le _,rfl,rfl,h0,by omega,rfl,Below.refl _ _⟩
 case round =>
  obtain ⟨m,K,hm,rfl,rfl,hK0,hK1,HK,HB⟩:=hrel
  by_cases k1:m<n
  ·obtain ⟨b,off,rfl,hbl,hc⟩:=H.out m _ (mkG_get k1)
   rw[←HK.out] at hc
   have c0:wr.cell? ⟨b,off+m*3,none⟩=some (.bool (decide ((K:Int) % 3=0))):=cell_later HB.out (hc 0 _ rfl)
   have c1:wr.cell? ⟨b,off+m*3+1,none⟩=some (.int .i64 ((K:Int)+1)):=cell_later HB.out (hc 1 _ rfl)
   have c2:wr.cell? ⟨b,off+m*3+2,none⟩=some (.int .i64 ((K:Int)+1+1)):=cell_later HB.out (hc 2 _ rfl)
   have hq:((K:Int) % 3==0)=decide ((K:Int) % 3=0):=rfl
   clear hc hbl
   go_wp2_with fail
   go_roundw
   case rel=>exact ⟨m+1,K+3,by omega,by congr 1 <;> omega,by go_num,by omega,by have:=HK.out;omega,by have:=HK.out;show K+3=_;omega,HB⟩
   case measure=>simp[intOf];omega
  ·have e:m=n:=by omega
   subst e
   have HR:Hid ((K:Int)=((k+3*m:Nat):Int)):=by have:=HK.out;show _=_;rw[this]
   clear HK
   go_wp2_with fail
   go_ret
   exact ⟨by show Ending.returned (.int .i64 (K:Int))=_;rw[HR.out],HB.out⟩
end Go.Proofs.YtfejmalmnjmanaaGreatDoor
