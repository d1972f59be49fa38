import Derived.Test.YtkajknidfoelcaaGreatDoorP44
import Derived.Deep.CutRange
import Derived.Test.YtkajknidfoelcaaGreatDoorP46
import Derived.Test.YtkajknidfoelcaaGreatDoorP47
import Derived.Test.YtkajknidfoelcaaGreatDoorP48
import Derived.Test.YtkajknidfoelcaaGreatDoorP02
import Derived.Deep.Slices
import Derived.Deep.Strs
import Derived.DataShut
import Derived.ChangeSame
set_option linter.unusedVariables false
set_option linter.unusedSimpArgs false
set_option maxRecDepth 20000
set_option maxHeartbeats 8000000
namespace Go.Proofs.YtkajknidfoelcaaGreatDoor.U
open Go.RowKit M T
attribute [local go_sem] run_store_float
theorem made_c (kind n:Nat) (hk:kind<13) (hn:n≤20) (w:World) :
  Calls Tryz.prog 5 #[.int .i64 (kind:Int),.int .i64 (n:Int)] w fun e w'=>(∃g1 f,e=.returned (.tuple #[.agg #[.slice (some ⟨g1,0,none⟩) 1 1],.int .i64 (cirB kind:Int),.bool (cirT kind)])∧CodeAt w' (some ⟨g1,0,none⟩) [f]∧f.d=cirD kind n)∧Below w.heap.size w w':=by
 match kind,hk with
 | 0,_=>exact made_c0 n hn w
 | 1,_=>exact made_c1 n hn w
 | 2,_=>exact made_c2 n hn w
 | 3,_=>exact made_c3 n hn w
 | 4,_=>exact made_c4 n hn w
 | 5,_=>exact made_c5 n hn w
 | 6,_=>exact made_c6 n hn w
 | 7,_=>exact made_c7 n hn w
 | 8,_=>exact made_c8 n hn w
 | 9,_=>exact made_c9 n hn w
 | 10,_=>exact made_c10 n hn w
 | 11,_=>exact made_c11 n hn w
 | 12,_=>exact made_c12 n hn w
theorem wrecs_nil (w:World):Calls Tryz.prog 20 #[.slice none 0 0,.slice none 0 0] w fun e w'=>e=.returned (.bool true)∧w'=w:=by
 go_enter Tryz.func20,Tryz.ntmps20
 go_wp2_with fail
 go_loopw [13] (fun i wr=>i=.int .i64 0∧wr=w) (fun _ _=>0)
 case atStart=>exact⟨rfl,rfl⟩
 case round =>
  obtain⟨rfl,rfl⟩:=hrel
  go_wp2_with fail
  go_ret
  exact⟨rfl,rfl⟩
theorem wtexts_nil (w:World):Calls Tryz.prog 21 #[.slice none 0 0,.slice none 0 0] w fun e w'=>e=.returned (.bool true)∧w'=w:=by
 go_enter Tryz.func21,Tryz.ntmps21
 go_wp2_with fail
 go_loopw [13] (fun i wr=>i=.int .i64 0∧wr=w) (fun _ _=>0)
 case atStart=>exact⟨rfl,rfl⟩
 case round =>
  obtain⟨rfl,rfl⟩:=hrel
  go_wp2_with fail
  go_ret
  exact⟨rfl,rfl⟩
abbrev R3O:Obj:=.cells #[.int .i64 3,.slice none 0 0,.slice none 0 0,.string ⟨#[]⟩,.string ⟨#[]⟩,.int .i64 0,.int .i64 0] 35
theorem wreport3 (w:World):Calls Tryz.prog 8 #[rep3,rep3] w fun e w'=>e=.returned (.bool true)∧Below w.heap.size w w':=by
 go_enter Tryz.func8,Tryz.ntmps8
 go_wp2_with (first | (go_at_call 20;refine (wrecs_nil _).mono ?_;rintro e w1 ⟨rfl,rfl⟩) | (go_at_call 21;refine (wtexts_nil _).mono ?_;rintro e w1 ⟨rfl,rfl⟩))
 go_ret
 exact⟨rfl,bw2 _ _ _⟩
theorem eq14_2 (w:World):(binOp BinOp.eql 30 (.agg #[.int .i64 14,.int .i64 0,.int .i64 2]) (.agg #[.int .i64 14,.int .i64 0,.int .i64 2])).run Tryz.prog w=.ok (.bool true) w:=by kernel_rfl
theorem eq14_3 (w:World):(binOp BinOp.eql 30 (.agg #[.int .i64 14,.int .i64 0,.int .i64 3]) (.agg #[.int .i64 14,.int .i64 0,.int .i64 3])).run Tryz.prog w=.ok (.bool true) w:=by kernel_rfl
theorem eq14_4 (w:World):(binOp BinOp.eql 30 (.agg #[.int .i64 14,.int .i64 0,.int .i64 4]) (.agg #[.int .i64 14,.int .i64 0,.int .i64 4])).run Tryz.prog w=.ok (.bool true) w:=by kernel_rfl
theorem cirB_3 (kind:Nat):cirB kind=2∨cirB kind=3∨cirB kind=4:=by
 unfold cirB
 split
 ·exact .inr (.inr rfl)
 ·split
  ·exact .inr (.inl rfl)
  ·exact .inl rfl
theorem uwalk (a:Option Addr) (len cap:Nat) (xs:List UInt8) (ov:Addr) (w:World) (hp:SlA w 1 byteU a xs) (hl:xs.length=len) (hlay:LayAt w) (herr:ErrAt w) (hov:OvV w (some ov)) :
  Calls Tryz.prog 3 #[.slice a len cap] w fun e w'=>e=.returned (.bool true)∧Below w.heap.size w w':=by
 by_cases hbig:1048576<len
 ·have hb2:(1048576:Int)<(len:Int):=by omega
  go_enter Tryz.func3,Tryz.ntmps3
  go_wp2_with fail
  go_ret
  exact⟨rfl,Below.refl _ _⟩
 ·have hb2:¬(1048576:Int)<(len:Int):=by omega
  have HL:Hid (LayAt w):=hlay
  have HE:Hid (ErrAt w):=herr
  have HO:Hid (OvV w (some ov)):=hov
  have HW:Hid (∀i:Nat,i≤2→Calls Tryz.prog 4 #[.slice a len cap,.int .i64 (i:Int)] w fun e w'=>(∃b:Nat,e=.returned (.int .i64 (b:Int))∧b<256)∧w'=w):=fun i hi=>wb_any a len cap i xs w hl hp (by omega) hi
  clear hp hl hlay herr hov
  go_enter Tryz.func3,Tryz.ntmps3
  go_wp2_with fail
  refine (HW.out 0 (by omega)).mono ?_
  rintro e w1 ⟨⟨b0,rfl,h0⟩,rfl⟩
  have t0:(b0:Int).tmod 13=((b0 % 13:Nat):Int):=rfl
  have l0:b0 % 13<13:=Nat.mod_lt _ (by omega)
  obtain⟨kind,hk⟩:∃kind,b0 % 13=kind:=⟨_,rfl⟩
  rw[hk]at t0 l0
  clear hk
  go_wp2_with fail
  refine (HW.out 1 (by omega)).mono ?_
  rintro e w2 ⟨⟨b1,rfl,h1⟩,rfl⟩
  have t1:(b1:Int).tmod 21=((b1 % 21:Nat):Int):=rfl
  have l1:b1 % 21<21:=Nat.mod_lt _ (by omega)
  obtain⟨n,hn⟩:∃n,b1 % 21=n:=⟨_,rfl⟩
  rw[hn]at t1 l1
  clear hn
  go_wp2_with fail
  refine (HW.out 2 (by omega)).mono ?_
  rintro e w3 ⟨⟨b2,rfl,h2⟩,rfl⟩
  have t2:(b2:Int).tmod 201=((b2 % 201:Nat):Int):=rfl
  have l2:b2 % 201<201:=Nat.mod_lt _ (by omega)
  obtain⟨t,ht⟩:∃t,b2 % 201=t:=⟨_,rfl⟩
  rw[ht]at t2 l2
  clear ht h0 h1 h2 HW
  go_wp2_with fail
  refine (made_c kind n l0 (by omega) w3).mono ?_
  rintro e w4 ⟨⟨gp,f,rfl,hC4,hd⟩,hx4⟩
  have hok:cirOk kind n=true:=cir_ok l0 l1
  have HB4:Hid (Below w3.heap.size w3 w4):=hx4
  have HC4:Hid (CodeAt w4 (some ⟨gp,0,none⟩) [f]):=hC4
  have HD:Hid (f.d=cirD kind n):=hd
  have HOK:Hid (cirOk kind n=true):=hok
  have HCK:Hid (∀r,CkR ([f].map FC.d) r→r=cirF kind):=fun r hr=>by
   have h9:CkR [cirD kind n] r:=by rw[←hd];exact hr
   exact CkR.uniq h9 (cir_ck0 hok)
  have hB3:=cirB_3 kind
  have HTF:Hid (cirF kind=if cirT kind then (0,0,0) else (14,0,(cirB kind:Int))):=rfl
  obtain⟨B,hB⟩:∃B,cirB kind=B:=⟨_,rfl⟩
  have HBB:Hid (cirB kind=B):=hB
  rw[hB]at hB3 ⊢
  clear hx4 hC4 hd hok hB t0 t1 t2
  obtain⟨W5,hW5⟩:∃W5,w4.alloc (.cells #[.slice (some ⟨gp,0,none⟩) 1 1] 26)=W5:=⟨_,rfl⟩
  have hb5:Below w4.heap.size w4 W5:=by rw[←hW5];exact bw1 _ _
  have hbl:Below w3.heap.size w3 W5:=HB4.out.trans (hb5.mono HB4.out.size)
  have HB5:Hid (Below w3.heap.size w3 W5):=hbl
  have HC5:Hid (CodeAt W5 (some ⟨gp,0,none⟩) [f]):=HC4.out.later hb5
  have HG5:Hid (W5.heap[w4.heap.size]?=some (.cells #[.slice (some ⟨gp,0,none⟩) 1 1] 26)):=by show _=_;rw[←hW5];exact blk_new _ _
  have g5:W5.cell? ⟨w4.heap.size,0,none⟩=some (.slice (some ⟨gp,0,none⟩) 1 1):=by rw[blk_cell HG5.out];rfl
  have HI5:Hid (Calls Tryz.prog 6 #[.agg #[.slice (some ⟨gp,0,none⟩) 1 1]] W5 fun e w'=>(∃r:F3,CkR ([f].map FC.d) r∧e=.returned (FV r.1 r.2.1 r.2.2))∧Below W5.heap.size W5 w'):=icheckcode_any (some ⟨gp,0,none⟩) 1 1 [f] W5 HC5.out rfl (HL.out.later hbl) (HE.out.later hbl)
  clear hb5 hbl
  cases hct:cirT kind with
  | true =>
   have HCT:Hid (cirT kind=true):=hct
   go_wp2_with fail
   clear hW5
   refine HI5.out.mono ?_
   rintro e w6 ⟨⟨r,hr,rfl⟩,hx6⟩
   obtain rfl:=HCK.out r hr
   have HB6:Hid (Below w3.heap.size w3 w6):=HB5.out.trans (hx6.mono HB5.out.size)
   have HC6:Hid (CodeAt w6 (some ⟨gp,0,none⟩) [f]):=HC5.out.later hx6
   have g6:w6.cell? ⟨w4.heap.size,0,none⟩=some (.slice (some ⟨gp,0,none⟩) 1 1):=by rw[blk_cell (blk_later hx6 HG5.out)];rfl
   have hlt6:w4.heap.size<w6.heap.size:=World.block_lt_of_cell? _ _ g6
   clear hr hx6 HI5 g5
   have hkf:cirF kind=(0,0,0):=by rw[HTF.out,HCT.out];rfl
   rw[hkf]
   obtain⟨W7,hW7⟩:∃W7,w6.alloc (.cells #[.int .i64 0,.int .i64 0,.int .i64 0] 30)=W7:=⟨_,rfl⟩
   have hb7:Below w6.heap.size w6 W7:=by rw[←hW7];exact bw1 _ _
   have hbl:Below w3.heap.size w3 W7:=HB6.out.trans (hb7.mono HB6.out.size)
   have HB7:Hid (Below w3.heap.size w3 W7):=hbl
   have HF7:Hid (W7.heap[w6.heap.size]?=some (.cells #[.int .i64 0,.int .i64 0,.int .i64 0] 30)):=by show _=_;rw[←hW7];exact blk_new _ _
   have g7:=cell_later hb7 g6
   have HR:Hid (Calls Tryz.prog 7 #[.agg #[.slice (some ⟨gp,0,none⟩) 1 1],.agg #[.slice none 0 0,.slice none 0 0,.int .i64 (t:Int),.int .i64 2,.int .i64 1000]] W7 fun e w'=>RepU t W7 e w'):=runCode_u gp kind n t f ov HD.out HOK.out (tab_of (cir_go HCT.out l1)) HCT.out (by omega) W7 (HC6.out.later hb7) (HL.out.later hbl) (HO.out.later hbl)
   clear hb7 hbl hkf
   subst hW7
   go_wp2_with fail
   refine HR.out.mono ?_
   rintro e w8 ⟨ra,nr,rcap,s,tr,mk,rfl,hx8⟩
   have HB8:Hid (Below w3.heap.size w3 w8):=HB7.out.trans (hx8.mono HB7.out.size)
   obtain⟨W9,hW9⟩:∃W9,w8.alloc (.cells #[.int .i64 2,.slice ra nr rcap,.slice none 0 0,.string s,.string tr,.int .i64 (t:Int),.int .i64 mk] 35)=W9:=⟨_,rfl⟩
   have hb9:Below w8.heap.size w8 W9:=by rw[←hW9];exact bw1 _ _
   have hr9:W9.heap[w8.heap.size]?=some (.cells #[.int .i64 2,.slice ra nr rcap,.slice none 0 0,.string s,.string tr,.int .i64 (t:Int),.int .i64 mk] 35):=by rw[←hW9];exact blk_new _ _
   have r0:W9.cell? ⟨w8.heap.size,0,none⟩=some (.int .i64 2):=by rw[blk_cell hr9];rfl
   have r5:W9.cell? ⟨w8.heap.size,5,none⟩=some (.int .i64 (t:Int)):=by rw[blk_cell hr9];rfl
   have f0:W9.cell? ⟨w6.heap.size,0,none⟩=some (.int .i64 0):=by rw[blk_cell (blk_later (hx8.trans (hb9.mono hx8.size)) HF7.out)];rfl
   have HB9:Hid (Below w3.heap.size w3 W9):=HB8.out.trans (hb9.mono HB8.out.size)
   unfold repO
   clear hx8 HR hb9 hr9 g6 g7
   go_wp2_with fail
   go_ret
   exact⟨rfl,HB9.out⟩
  | false =>
   have HCT:Hid (cirT kind=false):=hct
   go_wp2_with fail
   clear hW5
   refine HI5.out.mono ?_
   rintro e w6 ⟨⟨r,hr,rfl⟩,hx6⟩
   obtain rfl:=HCK.out r hr
   have HB6:Hid (Below w3.heap.size w3 w6):=HB5.out.trans (hx6.mono HB5.out.size)
   have HC6:Hid (CodeAt w6 (some ⟨gp,0,none⟩) [f]):=HC5.out.later hx6
   have g6:w6.cell? ⟨w4.heap.size,0,none⟩=some (.slice (some ⟨gp,0,none⟩) 1 1):=by rw[blk_cell (blk_later hx6 HG5.out)];rfl
   have hlt6:w4.heap.size<w6.heap.size:=World.block_lt_of_cell? _ _ g6
   clear hr hx6 HI5 g5
   have hkf:cirF kind=(14,0,(B:Int)):=by rw[HTF.out,HCT.out,HBB.out];rfl
   rw[hkf]
   obtain⟨W7,hW7⟩:∃W7,w6.alloc (.cells #[.int .i64 14,.int .i64 0,.int .i64 (B:Int)] 30)=W7:=⟨_,rfl⟩
   have hb7:Below w6.heap.size w6 W7:=by rw[←hW7];exact bw1 _ _
   have hbl:Below w3.heap.size w3 W7:=HB6.out.trans (hb7.mono HB6.out.size)
   have HB7:Hid (Below w3.heap.size w3 W7):=hbl
   have HF7:Hid (W7.heap[w6.heap.size]?=some (.cells #[.int .i64 14,.int .i64 0,.int .i64 (B:Int)] 30)):=by show _=_;rw[←hW7];exact blk_new _ _
   have g7:=cell_later hb7 g6
   have HR:Hid (Calls Tryz.prog 7 #[.agg #[.slice (some ⟨gp,0,none⟩) 1 1],.agg #[.slice none 0 0,.slice none 0 0,.int .i64 (t:Int),.int .i64 2,.int .i64 1000]] W7 fun e w'=>e=.returned rep3∧Below W7.heap.size W7 w'):=runCode_no gp kind n t f HD.out HOK.out HCT.out W7 (HC6.out.later hb7) (HL.out.later hbl)
   clear hb7 hbl hkf
   go_wp2_with fail
   clear hW7
   refine HR.out.mono ?_
   rintro e w8 ⟨rfl,hx8⟩
   have HB8:Hid (Below w3.heap.size w3 w8):=HB7.out.trans (hx8.mono HB7.out.size)
   obtain⟨W9,hW9⟩:∃W9,w8.alloc R3O=W9:=⟨_,rfl⟩
   have hb9:Below w8.heap.size w8 W9:=by rw[←hW9];exact bw1 _ _
   have hr9:W9.heap[w8.heap.size]?=some R3O:=by rw[←hW9];exact blk_new _ _
   have r0:W9.cell? ⟨w8.heap.size,0,none⟩=some (.int .i64 3):=by rw[blk_cell hr9];rfl
   have r1:W9.cell? ⟨w8.heap.size,1,none⟩=some (.slice none 0 0):=by rw[blk_cell hr9];rfl
   have r2:W9.cell? ⟨w8.heap.size,2,none⟩=some (.slice none 0 0):=by rw[blk_cell hr9];rfl
   have r3:W9.cell? ⟨w8.heap.size,3,none⟩=some (.string ⟨#[]⟩):=by rw[blk_cell hr9];rfl
   have r4:W9.cell? ⟨w8.heap.size,4,none⟩=some (.string ⟨#[]⟩):=by rw[blk_cell hr9];rfl
   have r5:W9.cell? ⟨w8.heap.size,5,none⟩=some (.int .i64 0):=by rw[blk_cell hr9];rfl
   have r6:W9.cell? ⟨w8.heap.size,6,none⟩=some (.int .i64 0):=by rw[blk_cell hr9];rfl
   have hF9:=blk_later (hx8.trans (hb9.mono hx8.size)) HF7.out
   have f0:W9.cell? ⟨w6.heap.size,0,none⟩=some (.int .i64 14):=by rw[blk_cell hF9];rfl
   have f1:W9.cell? ⟨w6.heap.size,1,none⟩=some (.int .i64 0):=by rw[blk_cell hF9];rfl
   have f2:W9.cell? ⟨w6.heap.size,2,none⟩=some (.int .i64 (B:Int)):=by rw[blk_cell hF9];rfl
   have HB9:Hid (Below w3.heap.size w3 W9):=HB8.out.trans (hb9.mono HB8.out.size)
   have q2:=eq14_2
   have q3:=eq14_3
   have q4:=eq14_4
   clear hx8 HR hb9 hr9 g6 g7 hF9
   subst hW9
   rcases hB3 with rfl | rfl | rfl
   all_goals
    go_wp2_with (go_at_call 8;refine (wreport3 _).mono ?_;rintro e w10 ⟨rfl,hx10⟩;have HX10:Hid (Below w3.heap.size w3 w10):=HB9.out.trans (hx10.mono HB9.out.size);clear hx10)
    go_ret
    exact⟨rfl,HX10.out⟩
end Go.Proofs.YtkajknidfoelcaaGreatDoor.U
namespace Go.Proofs.YtkajknidfoelcaaGreatDoor
open Go.ChangeShapes Go.WideShapes Go.ChangeAt Go.RowKit
theorem spot_none {w:World} {a:Addr} {v:Value} (h:w.cell? a=some v):a=⟨a.block,a.off,none⟩:=by
 obtain⟨b,o,s⟩:=a
 cases s with
 | none=>rfl
 | some x =>
  unfold World.cell? at h
  split at h
  ·simp at h
  ·cases h
theorem list4 {α:Type} {cs:List α} (h:cs.length=4):∃c0 c1 c2 c3,cs=[c0,c1,c2,c3]:=by
 match cs,h with
 | [c0,c1,c2,c3],_=>exact⟨c0,c1,c2,c3,rfl⟩
section
variable {H:Type} {enc:TypeId × Value→H} {w:World} {base:Nat} {spare:Nat→Bool} {held:Bool}
theorem open_sl {α:Type} (x0:α) (cells:α→List Value) (k:Nat) (P:α→Prop) (st et:TypeId) (hu:Tryz.prog.underlying st=some (.slice et)) (hk:Tryz.prog.cellsOf et=k) (hk0:0<k) (hlen:∀x,(cells x).length=k)
  (ho:∀(fuel:Nat) (cs:List Value) (x:DataW H × List MemPlace),DataW.trod enc Tryz.prog w 0 spare held fuel et cs=some x→∃v,cs=cells v∧P v)
  {fuel:Nat} {sv:Value} {x:DataW H × List MemPlace} (h:DataW.trod enc Tryz.prog w 0 spare held fuel st [sv]=some x) :
  ∃(a:Option Addr) (cap:Nat) (xs:List α),sv=.slice a xs.length cap∧SlA w k cells a xs∧(∀v∈xs,P v)∧xs.length≤maxLen:=by
 rcases Deep.open_slice hu h with ⟨h0,_⟩ | ⟨a,len,cap,m,n,D,Pl,h0,hb,hl,hm,hmm,hx,hi⟩
 ·simp only[List.cons.injEq,and_true]at h0
  exact⟨none,0,[],h0,SlA.nil _ _ _ _,by simp,by simp⟩
 ·simp only[List.cons.injEq,and_true]at h0
  subst h0
  rw[hk]at hi
  have hlm:len≤m:=by rw[hmm];split<;>omega
  by_cases hz:len=0
  ·subst hz
   exact⟨some a,cap,[],rfl,SlA.nil _ _ _ _,by simp,by simp⟩
  ·haveI:Inhabited α:=⟨x0⟩
   obtain⟨f,hf⟩:=Deep.choose_lt (α:=α) (n:=len) (p:=fun i p=>P p∧∀j v,(cells p)[j]?=some v→w.cell? (a.add (i*k+j))=some v) (fun i hil=>by
    obtain⟨cs,h1,h2⟩:=hi i (by omega)
    obtain⟨p,rfl,hp⟩:=ho _ _ _ h2
    obtain⟨_,_,h3⟩:=World.cells?_some h1
    refine⟨p,hp,fun j v hv=>?_⟩
    have hj:j<k:=by have:=(List.getElem?_eq_some_iff.1 hv).1;rw[hlen]at this;exact this
    rw[←Deep.add_add,h3 j hj];exact hv)
   have h1:(cells (f 0))[0]?=some ((cells (f 0))[0]'(by rw[hlen];exact hk0)):=List.getElem?_eq_getElem _
   have h00:=(hf 0 (by omega)).2 0 _ h1
   have ha:a=⟨a.block,a.off,none⟩:=spot_none (w:=w) (by simpa [Addr.add] using h00)
   have hlt':a.block<w.heap.size:=World.block_lt_of_cell? _ _ (by simpa [Addr.add] using h00)
   refine⟨some a,cap,(List.range len).map f,?_,?_,?_,?_⟩
   ·rw[List.length_map,List.length_range]
   ·intro i p hip
    simp only[List.getElem?_map,Option.map_eq_some_iff]at hip
    obtain⟨i',hi',rfl⟩:=hip
    have hil:i<len:=by
     have:=(List.getElem?_eq_some_iff.1 hi').1
     simpa using this
    rw[List.getElem?_range hil]at hi'
    cases hi'
    refine⟨a.block,a.off,by rw[←ha],hlt',fun j v hv=>?_⟩
    have:=(hf i hil).2 j v hv
    rw[ha,Addr.add_lit]at this
    rw[Nat.add_assoc];exact this
   ·intro p hp
    simp only[List.mem_map,List.mem_range]at hp
    obtain⟨i,hil,rfl⟩:=hp
    exact (hf i hil).1
   ·rw[List.length_map,List.length_range];omega
end
end Go.Proofs.YtkajknidfoelcaaGreatDoor
