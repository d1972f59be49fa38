import Derived.LoopN
import Derived.Test.YtfejmalmnjmanaaGreatDoorS08
set_option linter.unusedVariables false
set_option linter.unusedSimpArgs false
set_option maxRecDepth 20000
set_option maxHeartbeats 8000000
namespace Go.Proofs.YtfejmalmnjmanaaGreatDoor
open Go.RowKit
abbrev W5 (w:World) (ac:Option Addr) (lc cc:Nat) (n:ID):World :=
 ((((w.alloc (.cells #[.slice ac lc cc] 31)).alloc (.cells #[.int .i64 n.op,.int .i64 n.a,.int .i64 n.b,.int .i64 n.c,.int .i64 n.d] 77)).alloc (RO n.op)).alloc (.cells #[.int .i64 n.op,.int .i64 n.a,.int .i64 n.b,.int .i64 n.c,.int .i64 n.d] 77)).alloc (.cells #[.int .i64 n.a,.int .i64 n.b,.int .i64 n.c,.int .i64 n.d] 3)
theorem W5_size (w:World) (ac:Option Addr) (lc cc:Nat) (n:ID):(W5 w ac lc cc n).heap.size=w.heap.size+5:=by simp
theorem W5_below (w:World) (ac:Option Addr) (lc cc:Nat) (n:ID):Below w.heap.size w (W5 w ac lc cc n):=qJz (qJz (bw3 _ _ _ _) _) _
theorem W5_code (w:World) (ac:Option Addr) (lc cc:Nat) (n:ID):(W5 w ac lc cc n).heap[w.heap.size]?=some (.cells #[.slice ac lc cc] 31):=qIz (qIz (qIz (qIz (qKz _ _) _) _) _) _
theorem W5_ins (w:World) (ac:Option Addr) (lc cc:Nat) (n:ID):(W5 w ac lc cc n).heap[w.heap.size+1]?=some (.cells #[.int .i64 n.op,.int .i64 n.a,.int .i64 n.b,.int .i64 n.c,.int .i64 n.d] 77):=qIz (qIz (qIz (qNz (by simp) _) _) _) _
theorem W5_roles (w:World) (ac:Option Addr) (lc cc:Nat) (n:ID):(W5 w ac lc cc n).heap[w.heap.size+1+1]?=some (RO n.op):=qIz (qIz (qNz (by simp) _) _) _
theorem W5_fields (w:World) (ac:Option Addr) (lc cc:Nat) (n:ID):(W5 w ac lc cc n).heap[w.heap.size+1+1+1+1]?=some (.cells #[.int .i64 n.a,.int .i64 n.b,.int .i64 n.c,.int .i64 n.d] 3):=qNz (by simp) _
def RdP (c:List FD) (n:ID) (ts:List Int) (g cap:Nat) (w:World) (e:Ending) (w':World):Prop :=
 ((readV c n ts=none∧e=.returned (.tuple #[.slice none 0 0,.bool false])) ∨
  ∃ s a' c',readV c n ts=some s∧e=.returned (.tuple #[.slice a' s.taken.length c',.bool true])∧TyAt w' g cap s.ts∧SlA w' 1 natC a' s.taken∧s.ts.length=ts.length∧s.taken.length≤8∧∀ b off,a'=some ⟨b,off,none⟩→w.heap.size≤b)∧But g w w'
theorem But.from {g:Nat}{w W0 wr:World} (hb:Below w.heap.size w W0) (h:But g W0 wr):But g w wr :=
 ⟨h.os.trans hb.os,h.tape.trans hb.tape,h.output.trans hb.output,Nat.le_trans hb.size h.size,fun k hk hg=>(h.block k (Nat.lt_of_lt_of_le hk hb.size) hg).trans (hb.block k hk)⟩
theorem rdp_none {c:List FD}{n:ID}{ts:List Int}{g cap B:Nat}{w W0 wr:World}{tv sv:Value}{s:RdS} (hb:Below w.heap.size w W0) (h:RdI g cap B W0 wr tv sv s) (hn:rdAll (fldV n) ⟨ts,[],[]⟩=none):RdP c n ts g cap w (.returned (.tuple #[.slice none 0 0,.bool false])) wr :=
 ⟨.inl ⟨by rw[readV_all,hn];rfl,rfl⟩,But.from hb h.but⟩
theorem wants_eq {ro want:Int}{opr:Bool} (h:wantsV ro=(want,opr)) (w:World):Calls Tryz.prog 68 #[.int .i64 ro] w fun e w'=>e=.returned (.tuple #[.int .i64 want,.bool opr])∧w'=w:=by
 have:=wants_any ro w
 rw[h] at this
 exact this
theorem reg_of {ro x want:Int}{opr:Bool}{nT:Nat} (hv:wantsV ro=(want,opr)) (hw:want≠0) (h:regOk nT ro x):((rdReg opr x:Nat):Int)=(if (opr&&decide (x<0))=true then -1-x else x)∧rdReg opr x+(if ro=18 then 2 else if ro=19∨ro=20 then 1 else 0)<nT:=by
 unfold regOk at h
 rw[hv] at h
 obtain ⟨h1,h2⟩:=h hw
 have e:((rdReg opr x:Nat):Int)=(if (opr&&decide (x<0))=true then -1-x else x):=by
  unfold rdReg
  by_cases hc:(opr&&decide (x<0))=true
  ·simp only[hc,if_true] at h1 ⊢;omega
  ·simp only[hc] at h1 ⊢;simp at h1 ⊢;omega
 refine ⟨e,?_⟩
 simp only at h2
 rw[←e] at h2
 by_cases h18:ro=18
 ·rw[if_pos h18] at h2 ⊢;omega
 ·rw[if_neg h18] at h2 ⊢
  by_cases h19:ro=19∨ro=20
  ·rw[if_pos h19] at h2 ⊢;omega
  ·rw[if_neg h19] at h2 ⊢;omega
theorem step_of {ro x want:Int}{opr:Bool}{s:RdS}{R:Nat} (hv:wantsV ro=(want,opr)) (hw:want≠0) (hR:rdReg opr x=R):rdStep ro x s=if s.ts.getD R 0=want then (rdTake s opr x R).bind fun s'=>rdMore s' ro R else none:=by
 unfold rdStep
 rw[hv]
 simp only[hw,if_false,hR]
theorem role_t {ro want:Int} (h:wantsV ro=(want,true)):ro=2∨ro=3:=by
 unfold wantsV at h
 split at h
 ·exact .inl (by assumption)
 split at h
 ·exact .inr (by assumption)
 split at h
 ·cases h
 split at h
 ·cases h
 split at h <;> cases h
theorem read_any (xs:List FC) (w0:World) (n:ID) (ac:Option Addr) (lc cc:Nat) (p:Int) (g cap:Nat) (ts:List Int) (w:World) (ht:TyAt w g cap ts) (h0:1≤n.op) (h1:n.op≤42) (hl:ts.length≤250) (hreg:∀ f∈fldV n,regOk ts.length f.1 f.2) (hc0:CodeAt w0 ac xs) (hlc:xs.length=lc) (hb0:Below w0.heap.size w0 w) (hg0:w0.heap.size≤g) (hups:n.op=11→∃ (q:Nat) (f:FC),n.b=q∧xs[q]?=some f∧∀ u∈f.d.ups,u.l=true→0≤u.i∧u.i<ts.length) :
  Calls Tryz.prog 37 #[.agg #[.slice ac lc cc],.int .i64 p,IV n,.slice (some ⟨g,0,none⟩) ts.length cap] w fun e w'=>RdP (xs.map FC.d) n ts g cap w e w':=by
 obtain ⟨nT,hT⟩:∃ nT,ts.length=nT:=⟨_,rfl⟩
 have hglt:=ht.lt
 have HW:Hid (Below w.heap.size w (W5 w ac lc cc n)):=W5_below _ _ _ _ _
 have HI:Hid (RdI g cap (w.heap.size+5) (W5 w ac lc cc n) (W5 w ac lc cc n) (.slice none 0 0) (.slice none 0 0) ⟨ts,[],[]⟩):=⟨W5_size _ _ _ _ _,by omega,But.of_below (Below.refl _ _),ht.later (W5_below _ _ _ _ _),ORow.nil _ _ _ _ _,ORow.nil _ _ _ _ _,Apart.nil _⟩
 have HG:Hid (∀ f∈fldV n,regOk nT f.1 f.2):=hT ▸ hreg
 have HU:Hid (n.op=11→∃ (q:Nat) (f:FC),n.b=q∧xs[q]?=some f∧∀ u∈f.d.ups,u.l=true→0≤u.i∧u.i<nT):=hT ▸ hups
 have HCo:Hid (CodeAt w0 ac xs∧Below w0.heap.size w0 w∧w0.heap.size≤g):=⟨hc0,hb0,hg0⟩
 have HLc:Hid (xs.length=lc):=hlc
 clear hups hc0 hb0 hg0 hlc
 rw[hT] at hl ⊢
 have HC:Hid ((W5 w ac lc cc n).heap[w.heap.size]?=some (.cells #[.slice ac lc cc] 31)):=W5_code _ _ _ _ _
 have HN:Hid ((W5 w ac lc cc n).heap[w.heap.size+1]?=some (.cells #[.int .i64 n.op,.int .i64 n.a,.int .i64 n.b,.int .i64 n.c,.int .i64 n.d] 77)):=W5_ins _ _ _ _ _
 have HRo:Hid ((W5 w ac lc cc n).heap[w.heap.size+1+1]?=some (RO n.op)):=W5_roles _ _ _ _ _
 have HFi:Hid ((W5 w ac lc cc n).heap[w.heap.size+1+1+1+1]?=some (.cells #[.int .i64 n.a,.int .i64 n.b,.int .i64 n.c,.int .i64 n.d] 3)):=W5_fields _ _ _ _ _
 obtain ⟨W0,hW0⟩:∃ W0,W5 w ac lc cc n=W0:=⟨_,rfl⟩
 go_enter Tryz.func37,Tryz.ntmps37
 go_wp2_with (first
  | (go_at_call 66;refine (roles_in _ _ h0 h1).mono ?_;rintro e w' ⟨rfl,rfl⟩)
  | (go_at_call 67;refine (fields_any n _).mono ?_;rintro e w' ⟨rfl,rfl⟩))
 rw[hW0] at HI HC HN HRo HFi HW
 clear ht hreg
 go_loopw [10,11,30] (fun tv sv i wr=>∃ (m:Nat) (s:RdS),m≤4∧i=.int .i64 m∧Hid (RdI g cap (w.heap.size+5) W0 wr tv sv s)∧s.ts.length=nT∧s.taken.length≤2*m∧s.stay.length≤m∧Hid (rdAll ((fldV n).drop m) s=rdAll (fldV n) ⟨ts,[],[]⟩)) (fun _ _ i _=>4-(intOf i).toNat)
 case atStart=>exact ⟨0,⟨ts,[],[]⟩,Nat.zero_le _,rfl,hW0 ▸ HI,hT,Nat.le_refl _,Nat.le_refl _,rfl⟩
 case round =>
  clear HI
  obtain ⟨m,s,hm,rfl,HI,hts,htk,hst,HF⟩:=hrel
  by_cases k1:m<4
  ·obtain ⟨f,hf⟩:∃ f,(fldV n)[m]?=some f:=⟨_,List.getElem?_eq_getElem (l:=fldV n) k1⟩
   have c1:wr.cell? ⟨w.heap.size+1+1+1+1,m,none⟩=some (.int .i64 f.2):=by
    rw[qAz (HI.out.blk HFi.out (by omega))]
    match m,k1,hf with
    | 0,_,hf=>cases hf;rfl
    | 1,_,hf=>cases hf;rfl
    | 2,_,hf=>cases hf;rfl
    | 3,_,hf=>cases hf;rfl
   have HRm:Hid (∀ wq tv sv s',RdI g cap (w.heap.size+5) W0 wq tv sv s'→wq.cell? ⟨w.heap.size+1+1,m,none⟩=some (.int .i64 f.1)):=by
    intro wq tv sv s' h
    rw[qAz (h.blk HRo.out (by omega))]
    match m,k1,hf with
    | 0,_,hf=>cases hf;rfl
    | 1,_,hf=>cases hf;rfl
    | 2,_,hf=>cases hf;rfl
    | 3,_,hf=>cases hf;rfl
   have c2:=HRm.out _ _ _ _ HI.out
   have HD:Hid _:=rdAll_drop hf HF.out
   have HG1:Hid (regOk nT f.1 f.2):=HG.out f (List.mem_of_getElem? hf)
   clear hf HF
   obtain ⟨ro,x⟩:=f
   simp only at c1 c2 HD HG1 HRm
   obtain ⟨⟨want,opr⟩,hv⟩:∃ v,wantsV ro=v:=⟨_,rfl⟩
   by_cases hw0:want=0
   ·have t:(want==0)=true:=by simpa using hw0
    have HF1:Hid (rdAll ((fldV n).drop (m+1)) s=rdAll (fldV n) ⟨ts,[],[]⟩):=by have h:=HD.out;simp only[rdStep,hv,hw0,if_true,Option.bind_some] at h;exact h
    clear HD
    go_wp2_with (go_at_call 68;refine (wants_eq hv _).mono ?_;rintro e w' ⟨rfl,rfl⟩)
    go_roundw
    case rel=>exact ⟨m+1,s,by omega,by go_num,HI,hts,by omega,by omega,HF1⟩
    case measure=>simp[intOf];omega
   ·obtain ⟨hR,hRl⟩:=reg_of hv hw0 HG1.out
    obtain ⟨R,hRe⟩:∃ R,rdReg opr x=R:=⟨_,rfl⟩
    have HS:Hid _:=step_of (s:=s) hv hw0 hRe
    rw[hRe] at hR hRl
    have t0:(want==0)=false:=by simpa using hw0
    obtain ⟨z,hz⟩:∃ z,s.ts.getD R 0=z:=⟨_,rfl⟩
    have z1:wr.cell? ⟨g,R,none⟩=some (.int .i64 z):=hz ▸ HI.out.ty.cell (by omega)
    have HZ:Hid (s.ts.getD R 0=z):=hz
    by_cases hzw:z=want
    ·subst hzw
     have tz:(z != z)=false:=by simp
     have HD1:Hid (((rdTake s opr x R).bind fun s'=>rdMore s' ro R).bind (rdAll ((fldV n).drop (m+1)))=rdAll (fldV n) ⟨ts,[],[]⟩):=by
      have h:=HD.out
      rw[HS.out,HZ.out,if_pos rfl] at h
      exact h
     clear HD HS HZ hz hRe
     cases hop:opr
     ·rw[hop] at hR hv
      simp only[Bool.false_and,Bool.false_eq_true,if_false] at hR
      subst hR
      have HD2:Hid ((rdMore ⟨s.ts,s.taken,s.stay++[R]⟩ ro R).bind (rdAll ((fldV n).drop (m+1)))=rdAll (fldV n) ⟨ts,[],[]⟩):=by
       have h:=HD1.out
       simp only[hop,rdTake,Bool.false_and,Bool.false_eq_true,if_false,Option.bind_some] at h
       exact h
      clear HD1
      obtain ⟨g',cap',w2,hr,hI2⟩:=HI.out.stays R (by omega)
      have HR:Hid _:=hr
      have HI2:Hid (RdI g cap (w.heap.size+5) W0 w2 _ _ ⟨s.ts,s.taken,s.stay++[R]⟩):=hI2
      have c3:=HRm.out _ _ _ _ HI2.out
      clear hr hI2
      by_cases h18:ro=18
      ·subst h18
       rw[if_pos rfl] at hRl
       obtain ⟨y1,hy1⟩:∃ y,s.ts.getD (R+1) 0=y:=⟨_,rfl⟩
       have d1:w2.cell? ⟨g,R+1,none⟩=some (.int .i64 y1):=hy1 ▸ HI2.out.ty.cell (by show R+1<s.ts.length;omega)
       obtain ⟨y2,hy2⟩:∃ y,s.ts.getD (R+2) 0=y:=⟨_,rfl⟩
       have d2:w2.cell? ⟨g,R+2,none⟩=some (.int .i64 y2):=hy2 ▸ HI2.out.ty.cell (by show R+2<s.ts.length;omega)
       have HM:Hid (rdMore ⟨s.ts,s.taken,s.stay++[R]⟩ 18 R=if y1=1∧y2=1 then some ⟨s.ts,s.taken,s.stay++[R]⟩ else none):=by show rdMore _ _ _=_;simp only[rdMore,if_true,hy1,hy2]
       clear hy1 hy2
       by_cases b1:y1=1
       ·by_cases b2:y2=1
        ·have u1:(y1 != 1)=false:=by simpa using b1
         have u2:(y2 != 1)=false:=by simpa using b2
         have HF1:Hid (rdAll ((fldV n).drop (m+1)) ⟨s.ts,s.taken,s.stay++[R]⟩=rdAll (fldV n) ⟨ts,[],[]⟩):=by
          have h:=HD2.out
          rw[HM.out,if_pos ⟨b1,b2⟩] at h
          exact h
         clear HD2 HM b1 b2
         go_wp2_with (first|(go_at_call 68;refine (wants_eq hv _).mono ?_;rintro e w' ⟨rfl,rfl⟩)|(at_builtin;refine qEz rfl _ _ _ rfl _ _ _ _ rfl rfl HR.out ?_))
         refine wp_loop_rounds 3 ?_
         rw[rounds_succ]
         go_wp2_with fail
         rw[rounds_succ]
         go_wp2_with fail
         rw[rounds_succ]
         go_wp2_with fail
         go_roundw
         case rel=>exact ⟨m+1,_,by omega,by go_num,HI2,hts,by show s.taken.length≤_;omega,by simp;omega,HF1⟩
         case measure=>simp[intOf];omega
        ·have u1:(y1 != 1)=false:=by simpa using b1
         have u2:(y2 != 1)=true:=by simpa using b2
         have HX:Hid (rdAll (fldV n) ⟨ts,[],[]⟩=none):=by
          have h:=HD2.out
          rw[HM.out,if_neg (fun h=>b2 h.2)] at h
          exact h.symm
         clear HD2 HM b1 b2
         go_wp2_with (first|(go_at_call 68;refine (wants_eq hv _).mono ?_;rintro e w' ⟨rfl,rfl⟩)|(at_builtin;refine qEz rfl _ _ _ rfl _ _ _ _ rfl rfl HR.out ?_))
         refine wp_loop_rounds 2 ?_
         rw[rounds_succ]
         go_wp2_with fail
         rw[rounds_succ]
         go_wp2_with fail
         exact bodyPost_ret (v:=.tuple #[.slice none 0 0,.bool false]) (by simp[results,Tryz.results37,go_sem]) rfl (rdp_none HW.out HI2.out HX.out)
       ·have u1:(y1 != 1)=true:=by simpa using b1
        have HX:Hid (rdAll (fldV n) ⟨ts,[],[]⟩=none):=by
         have h:=HD2.out
         rw[HM.out,if_neg (fun h=>b1 h.1)] at h
         exact h.symm
        clear HD2 HM b1
        go_wp2_with (first|(go_at_call 68;refine (wants_eq hv _).mono ?_;rintro e w' ⟨rfl,rfl⟩)|(at_builtin;refine qEz rfl _ _ _ rfl _ _ _ _ rfl rfl HR.out ?_))
        refine wp_loop_rounds 1 ?_
        rw[rounds_succ]
        go_wp2_with fail
        exact bodyPost_ret (v:=.tuple #[.slice none 0 0,.bool false]) (by simp[results,Tryz.results37,go_sem]) rfl (rdp_none HW.out HI2.out HX.out)
      have f18:(ro==18)=false:=by simpa using h18
      rw[if_neg h18] at hRl
      by_cases h20:ro=20
      ·subst h20
       rw[if_pos (.inr rfl)] at hRl
       obtain ⟨y1,hy1⟩:∃ y,s.ts.getD (R+1) 0=y:=⟨_,rfl⟩
       have d1:w2.cell? ⟨g,R+1,none⟩=some (.int .i64 y1):=hy1 ▸ HI2.out.ty.cell (by show R+1<s.ts.length;omega)
       have HM:Hid (rdMore ⟨s.ts,s.taken,s.stay++[R]⟩ 20 R=if y1=1 then some ⟨s.ts,s.taken,s.stay++[R]⟩ else none):=by show rdMore _ _ _=_;unfold rdMore;rw[if_neg (by decide),if_pos rfl];show (if s.ts.getD (R+1) 0=1 then _ else _)=_;rw[hy1]
       clear hy1
       by_cases b1:y1=1
       ·have u1:(y1 != 1)=false:=by simpa using b1
        have HF1:Hid (rdAll ((fldV n).drop (m+1)) ⟨s.ts,s.taken,s.stay++[R]⟩=rdAll (fldV n) ⟨ts,[],[]⟩):=by
         have h:=HD2.out
         rw[HM.out,if_pos b1] at h
         exact h
        clear HD2 HM b1
        go_wp2_with (first|(go_at_call 68;refine (wants_eq hv _).mono ?_;rintro e w' ⟨rfl,rfl⟩)|(at_builtin;refine qEz rfl _ _ _ rfl _ _ _ _ rfl rfl HR.out ?_))
        refine wp_loop_rounds 2 ?_
        rw[rounds_succ]
        go_wp2_with fail
        rw[rounds_succ]
        go_wp2_with fail
        go_roundw
        case rel=>exact ⟨m+1,_,by omega,by go_num,HI2,hts,by show s.taken.length≤_;omega,by simp;omega,HF1⟩
        case measure=>simp[intOf];omega
       ·have u1:(y1 != 1)=true:=by simpa using b1
        have HX:Hid (rdAll (fldV n) ⟨ts,[],[]⟩=none):=by
         have h:=HD2.out
         rw[HM.out,if_neg b1] at h
         exact h.symm
        clear HD2 HM b1
        go_wp2_with (first|(go_at_call 68;refine (wants_eq hv _).mono ?_;rintro e w' ⟨rfl,rfl⟩)|(at_builtin;refine qEz rfl _ _ _ rfl _ _ _ _ rfl rfl HR.out ?_))
        refine wp_loop_rounds 1 ?_
        rw[rounds_succ]
        go_wp2_with fail
        exact bodyPost_ret (v:=.tuple #[.slice none 0 0,.bool false]) (by simp[results,Tryz.results37,go_sem]) rfl (rdp_none HW.out HI2.out HX.out)
      have f20:(ro==20)=false:=by simpa using h20
      by_cases h19:ro=19
      ·subst h19
       rw[if_pos (.inl rfl)] at hRl
       obtain ⟨y1,hy1⟩:∃ y,s.ts.getD (R+1) 0=y:=⟨_,rfl⟩
       have d1:w2.cell? ⟨g,R+1,none⟩=some (.int .i64 y1):=hy1 ▸ HI2.out.ty.cell (by show R+1<s.ts.length;omega)
       have HM:Hid (rdMore ⟨s.ts,s.taken,s.stay++[R]⟩ 19 R=if y1=0 then some ⟨s.ts,s.taken++[R],s.stay++[R]⟩ else none):=by show rdMore _ _ _=_;unfold rdMore;rw[if_neg (by decide),if_neg (by decide),if_pos rfl];show (if s.ts.getD (R+1) 0=0 then _ else _)=_;rw[hy1]
       clear hy1
       by_cases b1:y1=0
       ·have u1:(y1 != 0)=false:=by simpa using b1
        have HF1:Hid (rdAll ((fldV n).drop (m+1)) ⟨s.ts,s.taken++[R],s.stay++[R]⟩=rdAll (fldV n) ⟨ts,[],[]⟩):=by
         have h:=HD2.out
         rw[HM.out,if_pos b1] at h
         exact h
        clear HD2 HM b1
        obtain ⟨g3,cap3,w3,hr3,hI3⟩:=HI2.out.take R (by show s.taken.length≤1000;omega)
        have HR3:Hid _:=hr3
        have HI3:Hid (RdI g cap (w.heap.size+5) W0 w3 _ _ ⟨s.ts,s.taken++[R],s.stay++[R]⟩):=hI3
        clear hr3 hI3
        go_wp2_with (first|(go_at_call 68;refine (wants_eq hv _).mono ?_;rintro e w' ⟨rfl,rfl⟩)|(at_builtin;refine qEz rfl _ _ _ rfl _ _ _ _ rfl rfl HR.out ?_))
        refine wp_loop_rounds 1 ?_
        rw[rounds_succ]
        go_wp2_with (at_builtin;refine qEz rfl _ _ _ rfl _ _ _ _ rfl rfl HR3.out ?_)
        go_roundw
        case rel=>exact ⟨m+1,_,by omega,by go_num,HI3,hts,by simp;omega,by simp;omega,HF1⟩
        case measure=>simp[intOf];omega
       ·have u1:(y1 != 0)=true:=by simpa using b1
        have HX:Hid (rdAll (fldV n) ⟨ts,[],[]⟩=none):=by
         have h:=HD2.out
         rw[HM.out,if_neg b1] at h
         exact h.symm
        clear HD2 HM b1
        go_wp2_with (first|(go_at_call 68;refine (wants_eq hv _).mono ?_;rintro e w' ⟨rfl,rfl⟩)|(at_builtin;refine qEz rfl _ _ _ rfl _ _ _ _ rfl rfl HR.out ?_))
        refine wp_loop_rounds 1 ?_
        rw[rounds_succ]
        go_wp2_with fail
        exact bodyPost_ret (v:=.tuple #[.slice none 0 0,.bool false]) (by simp[results,Tryz.results37,go_sem]) rfl (rdp_none HW.out HI2.out HX.out)
      ·have f19:(ro==19)=false:=by simpa using h19
       have HF1:Hid (rdAll ((fldV n).drop (m+1)) ⟨s.ts,s.taken,s.stay++[R]⟩=rdAll (fldV n) ⟨ts,[],[]⟩):=by
        have h:=HD2.out
        unfold rdMore at h
        rw[if_neg h18,if_neg h20,if_neg h19] at h
        exact h
       clear HD2
       go_wp2_with (first|(go_at_call 68;refine (wants_eq hv _).mono ?_;rintro e w' ⟨rfl,rfl⟩)|(at_builtin;refine qEz rfl _ _ _ rfl _ _ _ _ rfl rfl HR.out ?_))
       refine wp_loop_rounds 1 ?_
       rw[rounds_succ]
       go_wp2_with fail
       go_roundw
       case rel=>exact ⟨m+1,_,by omega,by go_num,HI2,hts,by show s.taken.length≤_;omega,by simp;omega,HF1⟩
       case measure=>simp[intOf];omega
     ·have f18:(ro==18)=false:=by rw[hop] at hv;rcases role_t hv with rfl|rfl <;> rfl
      have f19:(ro==19)=false:=by rw[hop] at hv;rcases role_t hv with rfl|rfl <;> rfl
      have f20:(ro==20)=false:=by rw[hop] at hv;rcases role_t hv with rfl|rfl <;> rfl
      have hmore:∀ s',rdMore s' ro R=some s':=by
       intro s'
       unfold rdMore
       rw[if_neg (by simpa using f18),if_neg (by simpa using f20),if_neg (by simpa using f19)]
      have HM:Hid (∀ s',rdMore s' ro R=some s'):=hmore
      clear hmore
      by_cases hx:x<0
      ·rw[hop] at hR hv
       simp only[Bool.true_and,decide_eq_true hx,if_true] at hR
       replace hR:-1-x=(R:Int):=hR.symm
       obtain ⟨asv,csv,rfl,hsl⟩:=HI.out.os.lies natC_len
       have HSL:Hid (SlA wr 1 natC asv s.stay):=hsl
       obtain ⟨nS,hnS⟩:∃ nS,s.stay.length=nS:=⟨_,rfl⟩
       rw[hnS] at HI hst ⊢
       have HNS:Hid (s.stay.length=nS):=hnS
       clear hsl hnS
       have zf:=HI.out.ty.froz
       go_wp2_with (go_at_call 68;refine (wants_eq hv _).mono ?_;rintro e w' ⟨rfl,rfl⟩)
       go_loopw [66] (fun i wq=>∃ q:Nat,q≤nS∧i=.int .i64 q∧wq=w'∧Hid ((s.stay.drop q).contains R=s.stay.contains R)) (fun i _=>nS-(intOf i).toNat)
       case atStart=>exact ⟨0,Nat.zero_le _,rfl,rfl,rfl⟩
       case round =>
        obtain ⟨q,hq,rfl,rfl,HF⟩:=hrel
        by_cases k2:q<nS
        ·obtain ⟨y,hy⟩:∃ y,s.stay[q]?=some y:=⟨_,List.getElem?_eq_getElem (by rw[HNS.out];exact k2)⟩
         obtain ⟨b1,o1,rfl,_,hc⟩:=HSL.out q y hy
         have e1:=hc 0 _ rfl
         rw[Nat.mul_one,Nat.add_zero] at e1
         have HE:Hid (((R==y) || (s.stay.drop (q+1)).contains R)=s.stay.contains R):=by
          have h:=HF.out
          obtain ⟨hlt,he⟩:=List.getElem?_eq_some_iff.1 hy
          rw[List.drop_eq_getElem_cons hlt,he,List.contains_cons] at h
          exact h
         clear hy hc HF
         by_cases hyR:y=R
         ·subst hyR
          have HX:Hid (rdAll (fldV n) ⟨ts,[],[]⟩=none):=by
           have h:=HD1.out
           have hc:s.stay.contains y=true:=by rw[←HE.out];simp
           simp only[hop,rdTake,Bool.true_and,decide_eq_true hx,if_true,hc,Option.bind_none] at h
           exact h.symm
          clear HD1 HE HM
          go_wp2_with fail
          exact bodyPost_ret (v:=.tuple #[.slice none 0 0,.bool false]) (by simp[results,Tryz.results37,go_sem]) rfl (rdp_none HW.out HI.out HX.out)
         ·have ty:((y:Int)==(R:Int))=false:=by simp;omega
          have HF1:Hid ((s.stay.drop (q+1)).contains R=s.stay.contains R):=by
           have h:=HE.out
           rw[show (R==y)=false by simp;omega,Bool.false_or] at h
           exact h
          clear HE
          go_wp2_with fail
          go_roundw
          case rel=>exact ⟨q+1,by omega,by go_num,trivial,HF1⟩
          case measure=>simp[intOf];omega
        ·have HN0:Hid (s.stay.contains R=false):=by have h:=HF.out;rw[List.drop_of_length_le (by rw[HNS.out];omega)] at h;exact h.symm
         clear HF
         have HF1:Hid (rdAll ((fldV n).drop (m+1)) ⟨s.ts.set R 0,s.taken++[R],s.stay⟩=rdAll (fldV n) ⟨ts,[],[]⟩):=by
          have h:=HD1.out
          simp only[hop,rdTake,Bool.true_and,decide_eq_true hx,if_true,HN0.out,Bool.false_eq_true,if_false,Option.bind_some,HM.out] at h
          exact h
         clear HD1 HM HN0
         obtain ⟨g',cap',w2,hr,hI2⟩:=(HI.out.set R 0).take R (by show s.taken.length≤1000;omega)
         have hsz:(wr.setCell ⟨g,R,none⟩ (.int .i64 0)).heap.size=wr.heap.size:=by simp
         rw[hsz] at hr
         have HR:Hid _:=hr
         have HI2:Hid _:=hI2
         clear hr hI2 hsz
         have c3:=HRm.out _ _ _ _ HI2.out
         go_wp2_with (at_builtin;refine qEz rfl _ _ _ rfl _ _ _ _ rfl rfl HR.out ?_)
         refine wp_loop_rounds 1 ?_
         rw[rounds_succ]
         go_wp2_with fail
         go_roundw
         case rel=>exact ⟨m+1,_,by omega,by go_num,HI2,by simpa using hts,by simp;omega,by show s.stay.length≤m+1;rw[HNS.out];omega,HF1⟩
         case measure=>simp[intOf];omega
      ·rw[hop] at hR hv
       simp only[Bool.true_and,decide_eq_false hx,Bool.false_eq_true,if_false] at hR
       subst hR
       have HF1:Hid (rdAll ((fldV n).drop (m+1)) s=rdAll (fldV n) ⟨ts,[],[]⟩):=by
        have h:=HD1.out
        simp only[hop,rdTake,Bool.true_and,decide_eq_false hx,Bool.false_eq_true,if_false,if_true,Option.bind_some,HM.out] at h
        exact h
       clear HD1
       go_wp2_with (go_at_call 68;refine (wants_eq hv _).mono ?_;rintro e w' ⟨rfl,rfl⟩)
       refine wp_loop_rounds 1 ?_
       rw[rounds_succ]
       go_wp2_with fail
       go_roundw
       case rel=>exact ⟨m+1,s,by omega,by go_num,HI,hts,by omega,by omega,HF1⟩
       case measure=>simp[intOf];omega
    ·have tz:(z != want)=true:=by simpa using hzw
     have HX:Hid (rdAll (fldV n) ⟨ts,[],[]⟩=none):=by
      have h:=HD.out
      rw[HS.out,HZ.out,if_neg hzw] at h
      exact h.symm
     clear HD HS HZ hz hRe
     cases hop:opr
     ·rw[hop] at hR hv
      simp only[Bool.false_and,Bool.false_eq_true,if_false] at hR
      subst hR
      go_wp2_with (go_at_call 68;refine (wants_eq hv _).mono ?_;rintro e w' ⟨rfl,rfl⟩)
      exact bodyPost_ret (v:=.tuple #[.slice none 0 0,.bool false]) (by simp[results,Tryz.results37,go_sem]) rfl (rdp_none HW.out HI.out HX.out)
     ·by_cases hx:x<0
      ·rw[hop] at hR hv
       simp only[Bool.true_and,decide_eq_true hx,if_true] at hR
       replace hR:-1-x=(R:Int):=hR.symm
       go_wp2_with (go_at_call 68;refine (wants_eq hv _).mono ?_;rintro e w' ⟨rfl,rfl⟩)
       exact bodyPost_ret (v:=.tuple #[.slice none 0 0,.bool false]) (by simp[results,Tryz.results37,go_sem]) rfl (rdp_none HW.out HI.out HX.out)
      ·rw[hop] at hR hv
       simp only[Bool.true_and,decide_eq_false hx,Bool.false_eq_true,if_false] at hR
       subst hR
       go_wp2_with (go_at_call 68;refine (wants_eq hv _).mono ?_;rintro e w' ⟨rfl,rfl⟩)
       exact bodyPost_ret (v:=.tuple #[.slice none 0 0,.bool false]) (by simp[results,Tryz.results37,go_sem]) rfl (rdp_none HW.out HI.out HX.out)
  ·have hm4:m=4:=by omega
   subst hm4
   have HA:Hid (rdAll (fldV n) ⟨ts,[],[]⟩=some s):=by have h:=HF.out;exact h.symm
   clear HF
   have o0:wr.cell? ⟨w.heap.size+1,0,none⟩=some (.int .i64 n.op):=by rw[qAz (HI.out.blk HN.out (by omega))];rfl
   by_cases h11:n.op=11
   ·obtain ⟨q,f,hq,hf,hu⟩:=HU.out h11
    have hbw:Below w0.heap.size w0 wr:=(But.from HW.out HI.out.but).below HCo.out.2.1 HCo.out.2.2 (HCo.out.2.1.size)
    obtain ⟨b,off,rfl,_,h9⟩:=(HCo.out.1.later hbw).nine hf
    obtain ⟨op,na,nb,nc,nd⟩:=n
    simp only at h11 hq
    subst h11 hq
    have o2:wr.cell? ⟨w.heap.size+1,2,none⟩=some (.int .i64 (q:Int)):=by rw[qAz (HI.out.blk HN.out (by omega))];rfl
    have k0:wr.cell? ⟨w.heap.size,0,none⟩=some (.slice (some ⟨b,off,none⟩) lc cc):=by rw[qAz (HI.out.blk HC.out (by omega))];rfl
    have hql:q<lc:=by rw[←HLc.out];exact (List.getElem?_eq_some_iff.1 hf).1
    have k5:=h9.c5
    obtain ⟨us,hus⟩:∃ us,f.d.ups=us:=⟨_,rfl⟩
    obtain ⟨nU,hnU⟩:∃ nU,us.length=nU:=⟨_,rfl⟩
    have hlU:nU≤1048576:=by rw[←hnU,← hus];exact (HCo.out.1.ok f (List.mem_of_getElem? hf)).lu
    have HUs:Hid (SlA w0 2 UD.cells f.au us):=hus ▸ (HCo.out.1.lie f (List.mem_of_getElem? hf)).u
    have HUk:Hid (∀ u∈us,u.l=true→0≤u.i∧u.i<nT):=hus ▸ hu
    have HRv:Hid (readV (xs.map FC.d) ⟨11,na,(q:Int),nc,nd⟩ ts=if rdUps us s.ts=true then some s else none):=by
     show readV _ _ _=_
     rw[readV_all,HA.out,Option.bind_some,if_pos rfl]
     show (if rdUps ((xs.map FC.d).getD (q:Int).toNat fd0).ups s.ts=true then some s else none)=_
     rw[Int.toNat_natCast,List.getD_eq_getElem?_getD,List.getElem?_map,hf,Option.map_some,Option.getD_some,hus]
    rw[hus,hnU] at k5
    have HNU:Hid (us.length=nU):=hnU
    obtain ⟨au,hau⟩:∃ au,f.au=au:=⟨_,rfl⟩
    rw[hau] at k5 HUs
    obtain ⟨atv,ctv,rfl,hsl⟩:=HI.out.ot.lies natC_len
    obtain ⟨nK,hnK⟩:∃ nK,s.taken.length=nK:=⟨_,rfl⟩
    rw[hnK] at HI htk ⊢
    have HNK:Hid (s.taken.length=nK):=hnK
    clear hu hus hnU hau h9 hbw hf HA hsl hnK
    go_wp2_with fail
    clear k5 k0 o2 o0
    go_loopw [136] (fun i wr=>∃ j:Nat,j≤nU∧i=.int .i64 j∧Hid (RdI g cap (w.heap.size+5) W0 wr (.slice atv nK ctv) u11 s)∧Hid (rdUps (us.drop j) s.ts=rdUps us s.ts)) (fun i _=>nU-(intOf i).toNat)
    case atStart=>exact ⟨0,Nat.zero_le _,rfl,HI,rfl⟩
    case round =>
     clear HI
     obtain ⟨j,hj,rfl,HI,HF⟩:=hrel
     by_cases k2:j<nU
     ·obtain ⟨u,hu⟩:∃ u,us[j]?=some u:=⟨_,List.getElem?_eq_getElem (by rw[HNU.out];exact k2)⟩
      have hbw:Below w0.heap.size w0 wr:=(But.from HW.out HI.out.but).below HCo.out.2.1 HCo.out.2.2 (HCo.out.2.1.size)
      obtain ⟨b1,o1,rfl,_,hc⟩:=(HUs.out.later hbw) j u hu
      have e0:wr.cell? ⟨b1,o1+j*2,none⟩=some (.bool u.l):=hc 0 _ rfl
      have e1:wr.cell? ⟨b1,o1+j*2+1,none⟩=some (.int .i64 u.i):=hc 1 _ rfl
      have HE:Hid (((!u.l || s.ts.getD u.i.toNat 0==2)&&rdUps (us.drop (j+1)) s.ts)=rdUps us s.ts):=by
       have h:=HF.out
       obtain ⟨hlt,he⟩:=List.getElem?_eq_some_iff.1 hu
       rw[List.drop_eq_getElem_cons hlt,he] at h
       exact h
      have hin:=HUk.out u (List.mem_of_getElem? hu)
      clear hu hc HF hbw
      obtain ⟨ul,ui⟩:=u
      simp only at e0 e1 HE hin
      cases ul
      ·have HF1:Hid (rdUps (us.drop (j+1)) s.ts=rdUps us s.ts):=by have h:=HE.out;show rdUps _ _=_;simpa using h
       clear HE hin
       have HI':Hid _:=HI.out.alloc (.cells #[.bool false,.int .i64 ui] 124)
       go_wp2_with fail
       go_roundw
       case rel=>exact ⟨j+1,by omega,by go_num,HI',HF1⟩
       case measure=>simp[intOf];omega
      ·obtain ⟨i0,i1⟩:=hin rfl
       obtain ⟨r,rfl⟩:∃ r:Nat,ui=r:=⟨ui.toNat,by omega⟩
       obtain ⟨y,hy⟩:∃ y,s.ts.getD r 0=y:=⟨_,rfl⟩
       have hI':=HI.out.alloc (.cells #[.bool true,.int .i64 (r:Int)] 124)
       have d1:(wr.alloc (.cells #[.bool true,.int .i64 (r:Int)] 124)).cell? ⟨g,r,none⟩=some (.int .i64 y):=hy ▸ hI'.ty.cell (by rw[hts];omega)
       have HI':Hid _:=hI'
       have HY:Hid (s.ts.getD r 0=y):=hy
       clear hy hI'
       by_cases b2:y=2
       ·have u1:(y != 2)=false:=by simpa using b2
        have HF1:Hid (rdUps (us.drop (j+1)) s.ts=rdUps us s.ts):=by
         have h:=HE.out
         rw[Int.toNat_natCast,HY.out,b2] at h
         show rdUps _ _=_
         simpa using h
        clear HE HY b2
        go_wp2_with fail
        go_roundw
        case rel=>exact ⟨j+1,by omega,by go_num,HI',HF1⟩
        case measure=>simp[intOf];omega
       ·have u1:(y != 2)=true:=by simpa using b2
        have HX:Hid (rdUps us s.ts=false):=by
         have h:=HE.out
         rw[Int.toNat_natCast,HY.out,show (y==2)=false by simpa using b2] at h
         show rdUps _ _=_
         simpa using h.symm
        clear HE HY b2
        go_wp2_with fail
        exact bodyPost_ret (v:=.tuple #[.slice none 0 0,.bool false]) (by simp[results,Tryz.results37,go_sem]) rfl ⟨.inl ⟨by rw[HRv.out,HX.out];rfl,rfl⟩,But.from HW.out HI'.out.but⟩
     ·have HX:Hid (rdUps us s.ts=true):=by have h:=HF.out;rw[List.drop_of_length_le (by rw[HNU.out];omega)] at h;exact h.symm
      clear HF
      go_wp2_with fail
      have hR2:readV (xs.map FC.d) ⟨11,na,(q:Int),nc,nd⟩ ts=some s:=by rw[HRv.out,if_pos HX.out]
      obtain ⟨a2,c2,e2,hs2⟩:=HI.out.ot.lies natC_len
      injection e2 with e3 _ _
      rw[←e3] at hs2
      exact bodyPost_ret (v:=.tuple #[.slice atv nK ctv,.bool true]) (by simp[results,Tryz.results37,go_sem]) rfl ⟨.inr ⟨s,atv,ctv,hR2,by rw[HNK.out],HI.out.ty,hs2,by rw[hts,hT],by rw[HNK.out];omega,fun b off e=>by have h:=(HI.out.ot.own_lt (g:=b) (by rw[e];rfl)).1;omega⟩,But.from HW.out HI.out.but⟩
   ·have f11:(n.op==11)=false:=by simpa using h11
    have HX:Hid (readV (xs.map FC.d) n ts=some s):=by show readV _ _ _=_;rw[readV_all,HA.out,Option.bind_some,if_neg h11]
    obtain ⟨atv,ctv,rfl,hsl⟩:=HI.out.ot.lies natC_len
    have HSL:Hid _:=hsl
    clear hsl HA
    go_wp2_with fail
    exact bodyPost_ret (v:=.tuple #[.slice atv s.taken.length ctv,.bool true]) (by simp[results,Tryz.results37,go_sem]) rfl ⟨.inr ⟨s,atv,ctv,HX.out,rfl,HI.out.ty,HSL.out,by rw[hts,hT],by omega,fun b off e=>by have h:=(HI.out.ot.own_lt (g:=b) (by rw[e];rfl)).1;omega⟩,But.from HW.out HI.out.but⟩
end Go.Proofs.YtfejmalmnjmanaaGreatDoor
