import Derived.Deep.Slices
import Derived.Deep.Strs
import Derived.DataShut
import Derived.ChangeSame
import Derived.Test.YtfejmalmnjmanaaGreatDoorS05
import Derived.Deep.RegionWith
import Derived.Test.YtfejmalmnjmanaaGreatDoorS02
import Derived.Test.YtfejmalmnjmanaaGreatDoorS03
import Derived.OwnWalk
set_option linter.unusedVariables false
set_option linter.unusedSimpArgs false
set_option maxRecDepth 20000
set_option maxHeartbeats 8000000
namespace Go.Proofs.YtfejmalmnjmanaaGreatDoor
open Go.ChangeShapes Go.WideShapes Go.ChangeAt Go.RowKit
theorem spot_none {w:World}{a:Addr}{v:Value} (h:w.cell? a=some v):a=⟨a.block,a.off,none⟩:=by
 obtain ⟨b,o,s⟩:=a
 cases s with
 | none=>rfl
 | some x =>
  unfold World.cell? at h
  split at h
  ·simp at h
  ·cases h
theorem list1 {α:Type}{cs:List α} (h:cs.length=1):∃ c0,cs=[c0]:=by
 match cs,h with
 | [c0],_=>exact ⟨c0,rfl⟩
theorem list2 {α:Type}{cs:List α} (h:cs.length=2):∃ c0 c1,cs=[c0,c1]:=by
 match cs,h with
 | [c0,c1],_=>exact ⟨c0,c1,rfl⟩
theorem list4 {α:Type}{cs:List α} (h:cs.length=4):∃ c0 c1 c2 c3,cs=[c0,c1,c2,c3]:=by
 match cs,h with
 | [c0,c1,c2,c3],_=>exact ⟨c0,c1,c2,c3,rfl⟩
theorem list5 {α:Type}{cs:List α} (h:cs.length=5):∃ c0 c1 c2 c3 c4,cs=[c0,c1,c2,c3,c4]:=by
 match cs,h with
 | [c0,c1,c2,c3,c4],_=>exact ⟨c0,c1,c2,c3,c4,rfl⟩
theorem list9 {α:Type}{cs:List α} (h:cs.length=9):∃ c0 c1 c2 c3 c4 c5 c6 c7 c8,cs=[c0,c1,c2,c3,c4,c5,c6,c7,c8]:=by
 match cs,h with
 | [c0,c1,c2,c3,c4,c5,c6,c7,c8],_=>exact ⟨c0,c1,c2,c3,c4,c5,c6,c7,c8,rfl⟩
theorem array1 {α:Type}{cs:Array α} (h:cs.size=1):∃ c0,cs=#[c0]:=by
 obtain ⟨l⟩:=cs
 match l,h with
 | [c0],_=>exact ⟨c0,rfl⟩
section
variable {H:Type}{enc:TypeId × Value→H}{w:World}{base:Nat}{spare:Nat→Bool}{held:Bool}
theorem k_int:Tryz.prog.cellsOf 3=1:=by kernel_rfl
theorem k_str:Tryz.prog.cellsOf 9=1:=by kernel_rfl
theorem k_bool:Tryz.prog.cellsOf 4=1:=by kernel_rfl
theorem open_up {fuel:Nat}{cs:List Value}{x:DataW H × List MemPlace} (h:DataW.trod enc Tryz.prog w base spare held fuel 172 cs=some x):∃ v:UD,cs=v.cells∧True:=by
 obtain ⟨xs,n,_,rfl,hl,hlen,hf⟩:=DataW.trod_struct Tryz.underlying172 h
 have hC:Tryz.prog.cellsOf 172=2:=by kernel_rfl
 obtain ⟨c0,c1,rfl⟩:=list2 (hl.trans hC)
 obtain ⟨y0,y1,rfl⟩:=list2 hlen
 have t0:DataW.trod enc Tryz.prog w base spare held n 4 [c0]=some y0:=by simpa [k_bool] using hf 0 _ rfl
 have t1:DataW.trod enc Tryz.prog w base spare held n 3 [c1]=some y1:=by simpa [k_int] using hf 1 _ rfl
 obtain ⟨b,e0,_⟩:=DataW.trod_bool Tryz.underlying4 t0
 obtain ⟨k,e1,_,_⟩:=DataW.trod_int Tryz.underlying3 t1
 simp only[List.cons.injEq,and_true] at e0 e1
 subst e0 e1
 exact ⟨⟨b,k⟩,rfl,trivial⟩
theorem open_val {fuel:Nat}{cs:List Value}{x:DataW H × List MemPlace} (h:DataW.trod enc Tryz.prog w base spare held fuel 167 cs=some x):∃ v:VD,cs=v.cells∧v.ok:=by
 obtain ⟨y0,y1,y2,y3,y4,n,_,hl,t0,t1,t2,t3,t4⟩:=trod_struct5 Tryz.underlying167 h
 have hC:Tryz.prog.cellsOf 167=5:=by kernel_rfl
 have k2:Tryz.prog.cellsOf 2=1:=by kernel_rfl
 have kf:Tryz.prog.cellsOf 119=1:=by kernel_rfl
 obtain ⟨c0,c1,c2,c3,c4,rfl⟩:=list5 (hl.trans hC)
 simp only[k_int,k2,kf,k_str,List.drop_zero,List.drop_succ_cons,List.take_succ_cons,List.take_zero] at t0 t1 t2 t3 t4
 obtain ⟨k,e0,_,wk⟩:=DataW.trod_int Tryz.underlying3 t0
 obtain ⟨n',e1,_,wn⟩:=DataW.trod_int Tryz.underlying2 t1
 obtain ⟨f,e2,_,wf⟩:=trod_float Tryz.underlying119 t2
 obtain ⟨s,e3,_,ws⟩:=DataW.trod_string Tryz.underlying9 t3
 obtain ⟨r,e4,_,wr⟩:=DataW.trod_int Tryz.underlying3 t4
 simp only[List.cons.injEq,and_true] at e0 e1 e3 e4
 subst e0 e1 e2 e3 e4
 exact ⟨⟨k,n',f,s,r⟩,rfl,by simpa [Lit.wf] using wf,ws⟩
theorem open_ins {fuel:Nat}{cs:List Value}{x:DataW H × List MemPlace} (h:DataW.trod enc Tryz.prog w base spare held fuel 175 cs=some x):∃ v:ID,cs=v.cells∧True:=by
 obtain ⟨y0,y1,y2,y3,y4,n,_,hl,t0,t1,t2,t3,t4⟩:=trod_struct5 Tryz.underlying175 h
 have hC:Tryz.prog.cellsOf 175=5:=by kernel_rfl
 obtain ⟨c0,c1,c2,c3,c4,rfl⟩:=list5 (hl.trans hC)
 simp only[k_int,List.drop_zero,List.drop_succ_cons,List.take_succ_cons,List.take_zero] at t0 t1 t2 t3 t4
 obtain ⟨a0,e0,_,_⟩:=DataW.trod_int Tryz.underlying3 t0
 obtain ⟨a1,e1,_,_⟩:=DataW.trod_int Tryz.underlying3 t1
 obtain ⟨a2,e2,_,_⟩:=DataW.trod_int Tryz.underlying3 t2
 obtain ⟨a3,e3,_,_⟩:=DataW.trod_int Tryz.underlying3 t3
 obtain ⟨a4,e4,_,_⟩:=DataW.trod_int Tryz.underlying3 t4
 simp only[List.cons.injEq,and_true] at e0 e1 e2 e3 e4
 subst e0 e1 e2 e3 e4
 exact ⟨⟨a0,a1,a2,a3,a4⟩,rfl,trivial⟩
theorem open_nam {fuel:Nat}{cs:List Value}{x:DataW H × List MemPlace} (h:DataW.trod enc Tryz.prog w base spare held fuel 169 cs=some x):∃ v:ND,cs=v.cells∧v.s.size≤maxLen:=by
 obtain ⟨xs,n,_,rfl,hl,hlen,hf⟩:=DataW.trod_struct Tryz.underlying169 h
 have hC:Tryz.prog.cellsOf 169=4:=by kernel_rfl
 obtain ⟨c0,c1,c2,c3,rfl⟩:=list4 (hl.trans hC)
 obtain ⟨y0,y1,y2,y3,rfl⟩:=list4 hlen
 have t0:DataW.trod enc Tryz.prog w base spare held n 9 [c0]=some y0:=by simpa [k_str] using hf 0 _ rfl
 have t1:DataW.trod enc Tryz.prog w base spare held n 3 [c1]=some y1:=by simpa [k_int] using hf 1 _ rfl
 have t2:DataW.trod enc Tryz.prog w base spare held n 3 [c2]=some y2:=by simpa [k_int] using hf 2 _ rfl
 have t3:DataW.trod enc Tryz.prog w base spare held n 3 [c3]=some y3:=by simpa [k_int] using hf 3 _ rfl
 obtain ⟨s,e0,_,ws⟩:=DataW.trod_string Tryz.underlying9 t0
 obtain ⟨a1,e1,_,_⟩:=DataW.trod_int Tryz.underlying3 t1
 obtain ⟨a2,e2,_,_⟩:=DataW.trod_int Tryz.underlying3 t2
 obtain ⟨a3,e3,_,_⟩:=DataW.trod_int Tryz.underlying3 t3
 simp only[List.cons.injEq,and_true] at e0 e1 e2 e3
 subst e0 e1 e2 e3
 exact ⟨⟨s,a1,a2,a3⟩,rfl,ws⟩
theorem open_sl {α:Type} (x0:α) (cells:α→List Value) (k:Nat) (P:α→Prop) (st et:TypeId) (hu:Tryz.prog.underlying st=some (.slice et)) (hk:Tryz.prog.cellsOf et=k) (hk0:0<k) (hlen:∀ x,(cells x).length=k)
  (ho:∀ (fuel:Nat) (cs:List Value) (x:DataW H × List MemPlace),DataW.trod enc Tryz.prog w 0 spare held fuel et cs=some x→∃ v,cs=cells v∧P v)
  {fuel:Nat}{sv:Value}{x:DataW H × List MemPlace} (h:DataW.trod enc Tryz.prog w 0 spare held fuel st [sv]=some x) :
  ∃ (a:Option Addr) (cap:Nat) (xs:List α),sv=.slice a xs.length cap∧SlA w k cells a xs∧(∀ v∈xs,P v)∧xs.length≤maxLen:=by
 rcases Deep.open_slice hu h with ⟨h0,_⟩|⟨a,len,cap,m,n,D,Pl,h0,hb,hl,hm,hmm,hx,hi⟩
 ·simp only[List.cons.injEq,and_true] at h0
  exact ⟨none,0,[],h0,SlA.nil _ _ _ _,by simp,by simp⟩
 ·simp only[List.cons.injEq,and_true] at h0
  subst h0
  rw[hk] at hi
  have hlm:len≤m:=by rw[hmm];split <;> omega
  by_cases hz:len=0
  ·subst hz
   exact ⟨some a,cap,[],rfl,SlA.nil _ _ _ _,by simp,by simp⟩
  ·haveI:Inhabited α:=⟨x0⟩
   obtain ⟨f,hf⟩:=Deep.choose_lt (α:=α) (n:=len) (p:=fun i p=>P p∧∀ j v,(cells p)[j]?=some v→w.cell? (a.add (i*k+j))=some v) (fun i hil=>by
    obtain ⟨cs,h1,h2⟩:=hi i (by omega)
    obtain ⟨p,rfl,hp⟩:=ho _ _ _ h2
    obtain ⟨_,_,h3⟩:=World.cells?_some h1
    refine ⟨p,hp,fun j v hv=>?_⟩
    have hj:j<k:=by have:=(List.getElem?_eq_some_iff.1 hv).1;rw[hlen] at this;exact this
    rw[←Deep.add_add,h3 j hj];exact hv)
   have h1:(cells (f 0))[0]?=some ((cells (f 0))[0]'(by rw[hlen];exact hk0)):=List.getElem?_eq_getElem _
   have h00:=(hf 0 (by omega)).2 0 _ h1
   have ha:a=⟨a.block,a.off,none⟩:=spot_none (w:=w) (by simpa [Addr.add] using h00)
   have hlt':a.block<w.heap.size:=World.block_lt_of_cell? _ _ (by simpa [Addr.add] using h00)
   refine ⟨some a,cap,(List.range len).map f,?_,?_,?_,?_⟩
   ·rw[List.length_map,List.length_range]
   ·intro i p hip
    simp only[List.getElem?_map,Option.map_eq_some_iff] at hip
    obtain ⟨i',hi',rfl⟩:=hip
    have hil:i<len:=by
     have:=(List.getElem?_eq_some_iff.1 hi').1
     simpa using this
    rw[List.getElem?_range hil] at hi'
    cases hi'
    refine ⟨a.block,a.off,by rw[←ha],hlt',fun j v hv=>?_⟩
    have:=(hf i hil).2 j v hv
    rw[ha,Addr.add_lit] at this
    rw[Nat.add_assoc];exact this
   ·intro p hp
    simp only[List.mem_map,List.mem_range] at hp
    obtain ⟨i,hil,rfl⟩:=hp
    exact (hf i hil).1
   ·rw[List.length_map,List.length_range];omega
theorem open_proto {fuel:Nat}{cs:List Value}{x:DataW H × List MemPlace} (h:DataW.trod enc Tryz.prog w 0 spare held fuel 68 cs=some x):∃ v:FC,cs=v.cells∧(v.lie w∧v.d.raw):=by
 obtain ⟨xs,n,_,rfl,hl,hlen,hf⟩:=DataW.trod_struct Tryz.underlying68 h
 have hC:Tryz.prog.cellsOf 68=9:=by kernel_rfl
 have k5:Tryz.prog.cellsOf 63=1:=by kernel_rfl
 have k6:Tryz.prog.cellsOf 64=1:=by kernel_rfl
 have k7:Tryz.prog.cellsOf 65=1:=by kernel_rfl
 have k8:Tryz.prog.cellsOf 66=1:=by kernel_rfl
 obtain ⟨c0,c1,c2,c3,c4,c5,c6,c7,c8,rfl⟩:=list9 (hl.trans hC)
 obtain ⟨y0,y1,y2,y3,y4,y5,y6,y7,y8,rfl⟩:=list9 hlen
 have t0:DataW.trod enc Tryz.prog w 0 spare held n 9 [c0]=some y0:=by simpa [k_str] using hf 0 _ rfl
 have t1:DataW.trod enc Tryz.prog w 0 spare held n 3 [c1]=some y1:=by simpa [k_int] using hf 1 _ rfl
 have t2:DataW.trod enc Tryz.prog w 0 spare held n 3 [c2]=some y2:=by simpa [k_int] using hf 2 _ rfl
 have t3:DataW.trod enc Tryz.prog w 0 spare held n 4 [c3]=some y3:=by simpa [k_bool] using hf 3 _ rfl
 have t4:DataW.trod enc Tryz.prog w 0 spare held n 3 [c4]=some y4:=by simpa [k_int] using hf 4 _ rfl
 have t5:DataW.trod enc Tryz.prog w 0 spare held n 63 [c5]=some y5:=by simpa [k5] using hf 5 _ rfl
 have t6:DataW.trod enc Tryz.prog w 0 spare held n 64 [c6]=some y6:=by simpa [k6] using hf 6 _ rfl
 have t7:DataW.trod enc Tryz.prog w 0 spare held n 65 [c7]=some y7:=by simpa [k7] using hf 7 _ rfl
 have t8:DataW.trod enc Tryz.prog w 0 spare held n 66 [c8]=some y8:=by simpa [k8] using hf 8 _ rfl
 obtain ⟨s,e0,_,ws⟩:=DataW.trod_string Tryz.underlying9 t0
 obtain ⟨a1,e1,_,_⟩:=DataW.trod_int Tryz.underlying3 t1
 obtain ⟨a2,e2,_,_⟩:=DataW.trod_int Tryz.underlying3 t2
 obtain ⟨b3,e3,_⟩:=DataW.trod_bool Tryz.underlying4 t3
 obtain ⟨a4,e4,_,_⟩:=DataW.trod_int Tryz.underlying3 t4
 obtain ⟨au,cu,us,e5,s5,_,l5⟩:=open_sl (⟨false,0⟩:UD) UD.cells 2 (fun _=>True) 63 172 Tryz.underlying63 (by kernel_rfl) (by omega) UD.len (fun _ _ _ h=>open_up h) t5
 obtain ⟨ac,cc,vs,e6,s6,o6,l6⟩:=open_sl (⟨0,0,0,ByteArray.empty,0⟩:VD) VD.cells 5 VD.ok 64 167 Tryz.underlying64 (by kernel_rfl) (by omega) VD.len (fun _ _ _ h=>open_val h) t6
 obtain ⟨ai,ci,is,e7,s7,_,l7⟩:=open_sl (⟨0,0,0,0,0⟩:ID) ID.cells 5 (fun _=>True) 65 175 Tryz.underlying65 (by kernel_rfl) (by omega) ID.len (fun _ _ _ h=>open_ins h) t7
 obtain ⟨an,cn,ns,e8,s8,o8,l8⟩:=open_sl (⟨ByteArray.empty,0,0,0⟩:ND) ND.cells 4 (fun v=>v.s.size≤maxLen) 66 169 Tryz.underlying66 (by kernel_rfl) (by omega) ND.len (fun _ _ _ h=>open_nam h) t8
 simp only[List.cons.injEq,and_true] at e0 e1 e2 e3 e4
 subst e0 e1 e2 e3 e4 e5 e6 e7 e8
 exact ⟨⟨⟨s,a1,a2,b3,a4,us,vs,is,ns⟩,au,cu,ac,cc,ai,ci,an,cn⟩,rfl,⟨s5,s6,s7,s8⟩,⟨ws,l5,l6,l7,l8,o6,o8⟩⟩
set_option maxRecDepth 100000 in
theorem open_code {r:Reach}{b0:Nat}{v:Value}{d:DataW H}{p:List MemPlace} (hv:Value.okWide Tryz.prog w r b0 24 v) (h:DataW.Trod enc Tryz.prog w 0 spare held 24 v d p) :
  ∃ (a:Option Addr) (cap:Nat) (xs:List FC),v=.agg #[.slice a xs.length cap]∧SlA w 9 FC.cells a xs∧(∀ x∈xs,x.lie w∧x.d.raw)∧xs.length≤maxLen:=by
 obtain ⟨cs,rfl,hsz⟩:=okWide_struct Tryz.underlying24 hv
 have hC:Tryz.prog.cellsOf 24=1:=by kernel_rfl
 have k1:Tryz.prog.cellsOf 22=1:=by kernel_rfl
 obtain ⟨c0,rfl⟩:=array1 (hsz.trans hC)
 obtain ⟨fuel,hf⟩:=h
 obtain ⟨xs,n,_,hdp,hl,hlen,hff⟩:=DataW.trod_struct Tryz.underlying24 hf
 obtain ⟨y0,rfl⟩:=list1 hlen
 have t0:DataW.trod enc Tryz.prog w 0 spare held n 22 [c0]=some y0:=by simpa [Value.cells,k1] using hff 0 _ rfl
 obtain ⟨a,cap,fs,e,s,o,l⟩:=open_sl (⟨fd0,none,0,none,0,none,0,none,0⟩:FC) FC.cells 9 (fun x=>x.lie w∧x.d.raw) 22 68 Tryz.underlying22 (by kernel_rfl) (by omega) FC.len (fun _ _ _ h=>open_proto h) t0
 subst e
 exact ⟨a,cap,fs,rfl,s,o,l⟩
end
end Go.Proofs.YtfejmalmnjmanaaGreatDoor
namespace Go.Proofs.YtfejmalmnjmanaaGreatDoor
open Go.RowKit
attribute [local go_sem] run_store_float
theorem equ_any (x:UD) (w:World):Calls Tryz.prog 125 #[UV x,UV x] w fun e w'=>e=.returned (.bool true)∧Below w.heap.size w w':=by
 go_enter Tryz.func125,Tryz.ntmps125
 go_wp2
 go_ret
 exact ⟨rfl,bw2 _ _ _⟩
theorem eqi_any (x:ID) (w:World):Calls Tryz.prog 127 #[IV x,IV x] w fun e w'=>e=.returned (.bool true)∧Below w.heap.size w w':=by
 go_enter Tryz.func127,Tryz.ntmps127
 go_wp2
 go_ret
 exact ⟨rfl,bw2 _ _ _⟩
theorem eqn_any (x:ND) (w:World):Calls Tryz.prog 128 #[NV x,NV x] w fun e w'=>e=.returned (.bool true)∧Below w.heap.size w w':=by
 go_enter Tryz.func128,Tryz.ntmps128
 go_wp2
 go_ret
 exact ⟨rfl,bw2 _ _ _⟩
theorem eqv_any (x:VD) (w:World):Calls Tryz.prog 126 #[VVd x,VVd x] w fun e w'=>e=.returned (.bool true)∧Below w.heap.size w w':=eqv x.k x.n x.f x.s x.r w
theorem equs_any (a a':Option Addr) (cap cap' len:Nat) (xs:List UD) (w:World) (hl:xs.length=len) (hp:SlA w 2 UD.cells a xs) (hp':SlA w 2 UD.cells a' xs) (hlen:len≤1048576) :
  Calls Tryz.prog 90 #[.slice a len cap,.slice a' len cap'] w fun e w'=>e=.returned (.bool true)∧Below w.heap.size w w':=by
 have HP:Hid (SlA w 2 UD.cells a xs):=hp
 have HP':Hid (SlA w 2 UD.cells a' xs):=hp'
 have HL:Hid (xs.length=len):=hl
 clear hp hp' hl
 go_enter Tryz.func90,Tryz.ntmps90
 go_wp2_with fail
 go_loopw [5] (fun i wr=>∃ m:Nat,m≤len∧i=.int .i64 m∧Below w.heap.size w wr) (fun i _=>len-(intOf i).toNat)
 case atStart=>exact ⟨0,Nat.zero_le _,rfl,Below.refl _ _⟩
 case round =>
  obtain ⟨m,hm,rfl,hB⟩:=hrel
  by_cases k1:m<len
  ·obtain ⟨x,hx⟩:∃ x,xs[m]?=some x:=⟨xs[m]'(by rw[HL.out];exact k1),by simp⟩
   obtain ⟨b,off,rfl,hb,hc⟩:=HP.out m x hx
   obtain ⟨b',off',rfl,hb',hc'⟩:=HP'.out m x hx
   have c0:wr.cell? ⟨b,off+m*2,none⟩=some (.bool x.l):=cell_later hB (hc 0 _ rfl)
   have c1:wr.cell? ⟨b,off+m*2+1,none⟩=some (.int .i64 x.i):=cell_later hB (hc 1 _ rfl)
   have d0:wr.cell? ⟨b',off'+m*2,none⟩=some (.bool x.l):=cell_later hB (hc' 0 _ rfl)
   have d1:wr.cell? ⟨b',off'+m*2+1,none⟩=some (.int .i64 x.i):=cell_later hB (hc' 1 _ rfl)
   clear hx hc hc' hb hb'
   go_wp2_with fail
   go_region_with (go_at_call 125;refine (equ_any x _).mono ?_;rintro e w1 ⟨rfl,hx⟩)
   all_goals
    replace hx:=und1 hx
    replace hB:=hB.trans (hx.mono hB.size)
    clear hx c0 c1 d0 d1
    go_wp2_with fail
    go_roundw
    case rel=>exact ⟨m+1,by omega,by go_num,hB⟩
    case measure=>simp[intOf];omega
  ·go_wp2_with fail
   go_ret
   exact ⟨rfl,hB⟩
theorem eqvs_any (a a':Option Addr) (cap cap' len:Nat) (xs:List VD) (w:World) (hl:xs.length=len) (hp:SlA w 5 VD.cells a xs) (hp':SlA w 5 VD.cells a' xs) (hlen:len≤1048576) :
  Calls Tryz.prog 91 #[.slice a len cap,.slice a' len cap'] w fun e w'=>e=.returned (.bool true)∧Below w.heap.size w w':=by
 have HP:Hid (SlA w 5 VD.cells a xs):=hp
 have HP':Hid (SlA w 5 VD.cells a' xs):=hp'
 have HL:Hid (xs.length=len):=hl
 clear hp hp' hl
 go_enter Tryz.func91,Tryz.ntmps91
 go_wp2_with fail
 go_loopw [5] (fun i wr=>∃ m:Nat,m≤len∧i=.int .i64 m∧Below w.heap.size w wr) (fun i _=>len-(intOf i).toNat)
 case atStart=>exact ⟨0,Nat.zero_le _,rfl,Below.refl _ _⟩
 case round =>
  obtain ⟨m,hm,rfl,hB⟩:=hrel
  by_cases k1:m<len
  ·obtain ⟨x,hx⟩:∃ x,xs[m]?=some x:=⟨xs[m]'(by rw[HL.out];exact k1),by simp⟩
   obtain ⟨b,off,rfl,hb,hc⟩:=HP.out m x hx
   obtain ⟨b',off',rfl,hb',hc'⟩:=HP'.out m x hx
   have c0:wr.cell? ⟨b,off+m*5,none⟩=some (.int .i64 x.k):=cell_later hB (hc 0 _ rfl)
   have c1:wr.cell? ⟨b,off+m*5+1,none⟩=some (.int .i64 x.n):=cell_later hB (hc 1 _ rfl)
   have c2:wr.cell? ⟨b,off+m*5+2,none⟩=some (.float .f64 x.f):=cell_later hB (hc 2 _ rfl)
   have c3:wr.cell? ⟨b,off+m*5+3,none⟩=some (.string x.s):=cell_later hB (hc 3 _ rfl)
   have c4:wr.cell? ⟨b,off+m*5+4,none⟩=some (.int .i64 x.r):=cell_later hB (hc 4 _ rfl)
   have d0:wr.cell? ⟨b',off'+m*5,none⟩=some (.int .i64 x.k):=cell_later hB (hc' 0 _ rfl)
   have d1:wr.cell? ⟨b',off'+m*5+1,none⟩=some (.int .i64 x.n):=cell_later hB (hc' 1 _ rfl)
   have d2:wr.cell? ⟨b',off'+m*5+2,none⟩=some (.float .f64 x.f):=cell_later hB (hc' 2 _ rfl)
   have d3:wr.cell? ⟨b',off'+m*5+3,none⟩=some (.string x.s):=cell_later hB (hc' 3 _ rfl)
   have d4:wr.cell? ⟨b',off'+m*5+4,none⟩=some (.int .i64 x.r):=cell_later hB (hc' 4 _ rfl)
   clear hx hc hc' hb hb'
   go_wp2_with fail
   go_region_with (go_at_call 126;refine (eqv_any x _).mono ?_;rintro e w1 ⟨rfl,hx⟩)
   all_goals
    replace hx:=und1 hx
    replace hB:=hB.trans (hx.mono hB.size)
    clear hx c0 c1 c2 c3 c4 d0 d1 d2 d3 d4
    go_wp2_with fail
    go_roundw
    case rel=>exact ⟨m+1,by omega,by go_num,hB⟩
    case measure=>simp[intOf];omega
  ·go_wp2_with fail
   go_ret
   exact ⟨rfl,hB⟩
theorem eqis_any (a a':Option Addr) (cap cap' len:Nat) (xs:List ID) (w:World) (hl:xs.length=len) (hp:SlA w 5 ID.cells a xs) (hp':SlA w 5 ID.cells a' xs) (hlen:len≤1048576) :
  Calls Tryz.prog 92 #[.slice a len cap,.slice a' len cap'] w fun e w'=>e=.returned (.bool true)∧Below w.heap.size w w':=by
 have HP:Hid (SlA w 5 ID.cells a xs):=hp
 have HP':Hid (SlA w 5 ID.cells a' xs):=hp'
 have HL:Hid (xs.length=len):=hl
 clear hp hp' hl
 go_enter Tryz.func92,Tryz.ntmps92
 go_wp2_with fail
 go_loopw [5] (fun i wr=>∃ m:Nat,m≤len∧i=.int .i64 m∧Below w.heap.size w wr) (fun i _=>len-(intOf i).toNat)
 case atStart=>exact ⟨0,Nat.zero_le _,rfl,Below.refl _ _⟩
 case round =>
  obtain ⟨m,hm,rfl,hB⟩:=hrel
  by_cases k1:m<len
  ·obtain ⟨x,hx⟩:∃ x,xs[m]?=some x:=⟨xs[m]'(by rw[HL.out];exact k1),by simp⟩
   obtain ⟨b,off,rfl,hb,hc⟩:=HP.out m x hx
   obtain ⟨b',off',rfl,hb',hc'⟩:=HP'.out m x hx
   have c0:wr.cell? ⟨b,off+m*5,none⟩=some (.int .i64 x.op):=cell_later hB (hc 0 _ rfl)
   have c1:wr.cell? ⟨b,off+m*5+1,none⟩=some (.int .i64 x.a):=cell_later hB (hc 1 _ rfl)
   have c2:wr.cell? ⟨b,off+m*5+2,none⟩=some (.int .i64 x.b):=cell_later hB (hc 2 _ rfl)
   have c3:wr.cell? ⟨b,off+m*5+3,none⟩=some (.int .i64 x.c):=cell_later hB (hc 3 _ rfl)
   have c4:wr.cell? ⟨b,off+m*5+4,none⟩=some (.int .i64 x.d):=cell_later hB (hc 4 _ rfl)
   have d0:wr.cell? ⟨b',off'+m*5,none⟩=some (.int .i64 x.op):=cell_later hB (hc' 0 _ rfl)
   have d1:wr.cell? ⟨b',off'+m*5+1,none⟩=some (.int .i64 x.a):=cell_later hB (hc' 1 _ rfl)
   have d2:wr.cell? ⟨b',off'+m*5+2,none⟩=some (.int .i64 x.b):=cell_later hB (hc' 2 _ rfl)
   have d3:wr.cell? ⟨b',off'+m*5+3,none⟩=some (.int .i64 x.c):=cell_later hB (hc' 3 _ rfl)
   have d4:wr.cell? ⟨b',off'+m*5+4,none⟩=some (.int .i64 x.d):=cell_later hB (hc' 4 _ rfl)
   clear hx hc hc' hb hb'
   go_wp2_with fail
   go_region_with (go_at_call 127;refine (eqi_any x _).mono ?_;rintro e w1 ⟨rfl,hx⟩)
   all_goals
    replace hx:=und1 hx
    replace hB:=hB.trans (hx.mono hB.size)
    clear hx c0 c1 c2 c3 c4 d0 d1 d2 d3 d4
    go_wp2_with fail
    go_roundw
    case rel=>exact ⟨m+1,by omega,by go_num,hB⟩
    case measure=>simp[intOf];omega
  ·go_wp2_with fail
   go_ret
   exact ⟨rfl,hB⟩
theorem eqns_any (a a':Option Addr) (cap cap' len:Nat) (xs:List ND) (w:World) (hl:xs.length=len) (hp:SlA w 4 ND.cells a xs) (hp':SlA w 4 ND.cells a' xs) (hlen:len≤1048576) :
  Calls Tryz.prog 93 #[.slice a len cap,.slice a' len cap'] w fun e w'=>e=.returned (.bool true)∧Below w.heap.size w w':=by
 have HP:Hid (SlA w 4 ND.cells a xs):=hp
 have HP':Hid (SlA w 4 ND.cells a' xs):=hp'
 have HL:Hid (xs.length=len):=hl
 clear hp hp' hl
 go_enter Tryz.func93,Tryz.ntmps93
 go_wp2_with fail
 go_loopw [5] (fun i wr=>∃ m:Nat,m≤len∧i=.int .i64 m∧Below w.heap.size w wr) (fun i _=>len-(intOf i).toNat)
 case atStart=>exact ⟨0,Nat.zero_le _,rfl,Below.refl _ _⟩
 case round =>
  obtain ⟨m,hm,rfl,hB⟩:=hrel
  by_cases k1:m<len
  ·obtain ⟨x,hx⟩:∃ x,xs[m]?=some x:=⟨xs[m]'(by rw[HL.out];exact k1),by simp⟩
   obtain ⟨b,off,rfl,hb,hc⟩:=HP.out m x hx
   obtain ⟨b',off',rfl,hb',hc'⟩:=HP'.out m x hx
   have c0:wr.cell? ⟨b,off+m*4,none⟩=some (.string x.s):=cell_later hB (hc 0 _ rfl)
   have c1:wr.cell? ⟨b,off+m*4+1,none⟩=some (.int .i64 x.reg):=cell_later hB (hc 1 _ rfl)
   have c2:wr.cell? ⟨b,off+m*4+2,none⟩=some (.int .i64 x.fr):=cell_later hB (hc 2 _ rfl)
   have c3:wr.cell? ⟨b,off+m*4+3,none⟩=some (.int .i64 x.to):=cell_later hB (hc 3 _ rfl)
   have d0:wr.cell? ⟨b',off'+m*4,none⟩=some (.string x.s):=cell_later hB (hc' 0 _ rfl)
   have d1:wr.cell? ⟨b',off'+m*4+1,none⟩=some (.int .i64 x.reg):=cell_later hB (hc' 1 _ rfl)
   have d2:wr.cell? ⟨b',off'+m*4+2,none⟩=some (.int .i64 x.fr):=cell_later hB (hc' 2 _ rfl)
   have d3:wr.cell? ⟨b',off'+m*4+3,none⟩=some (.int .i64 x.to):=cell_later hB (hc' 3 _ rfl)
   clear hx hc hc' hb hb'
   go_wp2_with fail
   go_region_with (go_at_call 128;refine (eqn_any x _).mono ?_;rintro e w1 ⟨rfl,hx⟩)
   all_goals
    replace hx:=und1 hx
    replace hB:=hB.trans (hx.mono hB.size)
    clear hx c0 c1 c2 c3 d0 d1 d2 d3
    go_wp2_with fail
    go_roundw
    case rel=>exact ⟨m+1,by omega,by go_num,hB⟩
    case measure=>simp[intOf];omega
  ·go_wp2_with fail
   go_ret
   exact ⟨rfl,hB⟩
attribute [local go_sem] run_store_float
theorem eqp_any (f f':FC) (w:World) (hd:f'.d=f.d) (hl:f.lie w) (hl':f'.lie w) (ok:f.d.ok) :
  Calls Tryz.prog 48 #[PV f,PV f'] w fun e w'=>e=.returned (.bool true)∧Below w.heap.size w w':=by
 obtain ⟨d',au',cu',ac',cc',ai',ci',an',cn'⟩:=f'
 simp only at hd
 subst hd
 have HLI:Hid (f.lie w):=hl
 have HLJ:Hid (FC.lie w ⟨f.d,au',cu',ac',cc',ai',ci',an',cn'⟩):=hl'
 obtain ⟨on,lu,lc,lli,ln,_,_⟩:=ok
 clear hl hl' on
 go_enter Tryz.func48,Tryz.ntmps48
 go_wp2_with fail
 refine (equs_any _ _ _ _ _ f.d.ups _ rfl (HLI.out.later (bw2 _ _ _)).u (HLJ.out.later (bw2 _ _ _)).u lu).mono ?_
 rintro e w1 ⟨rfl,hx⟩
 have B0:Hid (w1.heap[w.heap.size]?=some (PO f)):=qBz hx (qIz (qKz _ _) _)
 have B1:Hid (w1.heap[w.heap.size+1]?=some (PO ⟨f.d,au',cu',ac',cc',ai',ci',an',cn'⟩)):=qBz hx (qNz (by simp) _)
 have hB:Below w.heap.size w w1:=(bw2 _ _ _).trans (hx.mono (by simp;omega))
 clear hx
 have p6:w1.cell? ⟨w.heap.size,6,none⟩=some (.slice f.ac f.d.consts.length f.cc):=by rw[qAz B0.out];rfl
 have q6:w1.cell? ⟨w.heap.size+1,6,none⟩=some (.slice ac' f.d.consts.length cc'):=by rw[qAz B1.out];rfl
 go_wp2_with fail
 refine (eqvs_any _ _ _ _ _ f.d.consts _ rfl (HLI.out.later hB).c (HLJ.out.later hB).c lc).mono ?_
 rintro e w2 ⟨rfl,hx⟩
 replace B0:Hid _:=qBz hx B0.out
 replace B1:Hid _:=qBz hx B1.out
 replace hB:=hB.trans (hx.mono hB.size)
 clear hx p6 q6
 have p7:w2.cell? ⟨w.heap.size,7,none⟩=some (.slice f.ai f.d.ins.length f.ci):=by rw[qAz B0.out];rfl
 have q7:w2.cell? ⟨w.heap.size+1,7,none⟩=some (.slice ai' f.d.ins.length ci'):=by rw[qAz B1.out];rfl
 go_wp2_with fail
 refine (eqis_any _ _ _ _ _ f.d.ins _ rfl (HLI.out.later hB).i (HLJ.out.later hB).i lli).mono ?_
 rintro e w3 ⟨rfl,hx⟩
 replace B0:Hid _:=qBz hx B0.out
 replace B1:Hid _:=qBz hx B1.out
 replace hB:=hB.trans (hx.mono hB.size)
 clear hx p7 q7
 have p8:w3.cell? ⟨w.heap.size,8,none⟩=some (.slice f.an f.d.named.length f.cn):=by rw[qAz B0.out];rfl
 have q8:w3.cell? ⟨w.heap.size+1,8,none⟩=some (.slice an' f.d.named.length cn'):=by rw[qAz B1.out];rfl
 go_wp2_with fail
 refine (eqns_any _ _ _ _ _ f.d.named _ rfl (HLI.out.later hB).n (HLJ.out.later hB).n ln).mono ?_
 rintro e w4 ⟨rfl,hx⟩
 replace B0:Hid _:=qBz hx B0.out
 replace B1:Hid _:=qBz hx B1.out
 replace hB:=hB.trans (hx.mono hB.size)
 clear hx p8 q8
 go_wp2_with fail
 go_ret
 exact ⟨rfl,hB⟩
theorem eqps_any (a a':Option Addr) (cap cap' len:Nat) (xs ys:List FC) (w:World) (hl:xs.length=len) (H0:CodeAt w a xs) (H1:CodeAt w a' ys) (hd:ys.map FC.d=xs.map FC.d) :
  Calls Tryz.prog 23 #[.slice a len cap,.slice a' len cap'] w fun e w'=>e=.returned (.bool true)∧Below w.heap.size w w':=by
 have hlen:len≤1048576:=by rw[←hl];exact H0.len
 have HX:Hid (CodeAt w a xs):=H0
 have HY:Hid (CodeAt w a' ys):=H1
 have HL:Hid (xs.length=len):=hl
 have HD:Hid (ys.map FC.d=xs.map FC.d):=hd
 clear H0 H1 hl hd
 go_enter Tryz.func23,Tryz.ntmps23
 go_wp2_with fail
 go_loopw [5] (fun i wr=>∃ m:Nat,m≤len∧i=.int .i64 m∧Below w.heap.size w wr) (fun i _=>len-(intOf i).toNat)
 case atStart=>exact ⟨0,Nat.zero_le _,rfl,Below.refl _ _⟩
 case round =>
  obtain ⟨m,hm,rfl,hB⟩:=hrel
  by_cases k1:m<len
  ·obtain ⟨f,hf⟩:∃ f,xs[m]?=some f:=⟨xs[m]'(by rw[HL.out];exact k1),by simp⟩
   have hyl:m<ys.length:=by
    have h:=congrArg List.length HD.out
    simp only[List.length_map] at h
    rw[h,HL.out];exact k1
   obtain ⟨g,hg⟩:∃ g,ys[m]?=some g:=⟨ys[m]'hyl,by simp⟩
   have HE:Hid (g.d=f.d):=by
    have h:=congrArg (fun l=>l[m]?) HD.out
    simp only[List.getElem?_map,hf,hg,Option.map_some,Option.some.injEq] at h
    exact h
   obtain ⟨b,off,rfl,_,hc⟩:=HX.out.nine hf
   obtain ⟨b',off',rfl,_,hc'⟩:=HY.out.nine hg
   have HFL:Hid (f.lie w):=HX.out.lie f (List.mem_of_getElem? hf)
   have HGL:Hid (g.lie w):=HY.out.lie g (List.mem_of_getElem? hg)
   have HFO:Hid f.d.ok:=HX.out.ok f (List.mem_of_getElem? hf)
   obtain ⟨c0,c1,c2,c3,c4,c5,c6,c7,c8⟩:=hc.later hB
   obtain ⟨d0,d1,d2,d3,d4,d5,d6,d7,d8⟩:=hc'.later hB
   clear hf hg hc hc' hyl
   go_wp2_with fail
   go_region_with (go_at_call 48;refine (eqp_any f g _ HE.out (HFL.out.later (hB.trans ((Below.refl _ _).drew))) (HGL.out.later (hB.trans ((Below.refl _ _).drew))) HFO.out).mono ?_;rintro e w1 ⟨rfl,hx⟩)
   all_goals
    replace hx:=und1 hx
    replace hB:=hB.trans (hx.mono hB.size)
    clear hx c0 c1 c2 c3 c4 c5 c6 c7 c8 d0 d1 d2 d3 d4 d5 d6 d7 d8
    go_wp2_with fail
    go_roundw
    case rel=>exact ⟨m+1,by omega,by go_num,hB⟩
    case measure=>simp[intOf];omega
  ·go_wp2_with fail
   go_ret
   exact ⟨rfl,hB⟩
theorem eqc_any (a a':Option Addr) (cap cap' len:Nat) (xs ys:List FC) (w:World) (hl:xs.length=len) (H0:CodeAt w a xs) (H1:CodeAt w a' ys) (hd:ys.map FC.d=xs.map FC.d) :
  Calls Tryz.prog 10 #[.agg #[.slice a len cap],.agg #[.slice a' len cap']] w fun e w'=>e=.returned (.bool true)∧Below w.heap.size w w':=by
 have HX:Hid (CodeAt w a xs):=H0
 have HY:Hid (CodeAt w a' ys):=H1
 clear H0 H1
 go_enter Tryz.func10,Tryz.ntmps10
 go_wp2_with fail
 refine (eqps_any a a' cap cap' len xs ys _ hl (HX.out.later (bw2 _ _ _)) (HY.out.later (bw2 _ _ _)) hd).mono ?_
 rintro e w1 ⟨rfl,hx⟩
 have hb:=(bw2 _ _ _).trans (hx.mono (by simp;omega))
 clear hx
 go_wp2_with fail
 go_ret
 exact ⟨rfl,hb⟩
attribute [local go_sem] run_store_float
theorem owns_later {w w':World}{base:Nat}{e:TypeId}{k:Nat}{sv:Value}{n:Nat}{xs:List Value} (hb:Below w.heap.size w w') (h:w.ownsRow base e k sv n xs):w'.ownsRow base e k sv n xs:=by
 obtain ⟨h1,h2⟩:=h
 refine ⟨h1,?_⟩
 rcases h2 with h2|⟨g,cap,cur,e1,e2,e3,e4⟩
 ·exact .inl h2
 ·exact .inr ⟨g,cap,cur,e1,e2,qBz hb e3,e4⟩
theorem owns_ge {w:World}{base:Nat}{e:TypeId}{k:Nat}{sv:Value}{n:Nat}{xs:List Value} (h:w.ownsRow base e k sv n xs) {b:Nat} (hb:sv.ownBlock=some b):base≤b:=by
 rcases h.2 with ⟨rfl,_⟩|⟨g,cap,cur,rfl,e2,_⟩
 ·cases hb
 ·cases hb;exact e2
theorem below_grown {B:Nat}{w0 w w':World}{sv:Value}{base:Nat}{e:TypeId}{k n:Nat}{xs:List Value} (hB:Below B w0 w) (hsz:B≤w.heap.size) (ho:w.ownsRow base e k sv n xs) (hbase:B≤base) (hg:w.grownBy w' sv.ownBlock):Below B w0 w' :=
 ⟨hg.os.trans hB.os,hg.tape.trans hB.tape,hg.output.trans hB.output,Nat.le_trans hB.size hg.size,fun j hj=>(hg.block j (by omega) (fun he=>by have:=owns_ge ho he.symm;omega)).trans (hB.block j hj)⟩
theorem app_gen (st et:TypeId) (k by':Nat) (hu:Tryz.prog.underlying st=some (.slice et)) (hc:(Tryz.prog.info? et).map (fun i=>(i.zero.map (fun z=>z.cells.size),i.size,i.bytes))=some (some k,k,by')) (hk:0<k) (hby:by'≤1000)
  (base:Nat) (w:World) (sv:Value) (n:Nat) (xs news:List Value) (nb:Nat) (ty:TypeId) (ho:w.ownsRow base et k sv n xs) (hn:w.heap[nb]?=some (.cells news.toArray et)) (hl:news.length=k) (h1:∀ u∈news,u.oneCell'=true) (hlen:n≤2000000) (hb:base≤w.heap.size) :
  ∃ g' cap' w',(Builtin.append_ #[st,st] ty #[sv,.slice (some ⟨nb,0,none⟩) 1 1]).run Tryz.prog w=.ok (.slice (some ⟨g',0,none⟩) (n+1) cap') w'∧w'.ownsRow base et k (.slice (some ⟨g',0,none⟩) (n+1) cap') (n+1) (xs++news)∧w.grownBy w' sv.ownBlock:=by
 obtain ⟨i,z,hi,hz,e1,e2,e3⟩:∃ (i:TypeInfo) (z:Value),Tryz.prog.info? et=some i∧i.zero=some z∧i.size=k∧i.bytes=by'∧z.cells.size=k:=by
  cases hi:Tryz.prog.info? et with
  | none=>rw[hi] at hc;cases hc
  | some i =>
   rw[hi] at hc
   simp only[Option.map_some,Option.some.injEq,Prod.mk.injEq] at hc
   obtain ⟨h1,h2,h3⟩:=hc
   cases hz:i.zero with
   | none=>rw[hz] at h1;cases h1
   | some z=>rw[hz] at h1;simp at h1;exact ⟨i,z,rfl,hz,h2,h3,h1⟩
 obtain ⟨v',w',hr,ho',hg,_⟩:=run_append_own (P:=Tryz.prog) w base st ty et i z k by' hu hi hz e1 e2 e3 hk sv n xs ho ⟨nb,0,none⟩ 1 1 news (by omega) (fun j u hu=>by
   show w.cell? (Addr.add ⟨nb,0,none⟩ j)=some u
   rw[Addr.add_lit,Nat.zero_add,qAz hn]
   simpa using hu) h1 (by unfold maxLen;omega) (by
   have:(n+1)*by'≤2000001*1000:=Nat.mul_le_mul (by omega) hby
   omega) hb
 rcases ho'.2 with ⟨_,h0⟩|⟨g',cap',cur,e5,_⟩
 ·omega
 ·subst e5
  exact ⟨g',cap',w',hr,ho',hg⟩
theorem qEz {P:Program}{w:World}{ops:Array Oper}{rest:List Oper}{o:Oper}{a:Act}{Q:Exit→Act→World→Prop} (hgd:o.guard=none) (s x:Operand) (t:TypeId)
  (ho:o.op=.call { callee:=.builtin .append,args:=#[s,x],argTypes:=#[t,t] }) (sv xv v':Value) (w':World) (hs:a.eval s=sv) (hx:a.eval x=xv) (hrun:(Builtin.append_ #[t,t] o.type #[sv,xv]).run P w=.ok v' w')
  (h:wpList P ops Q rest (a.put o.dst v') w'):wpList P ops Q (o::rest) a w :=
 wpList_plain hgd fun _ hK=>by
  unfold Oper.wp
  simp[execOp,ho,resolve,invoke,builtin,hs,hx,hrun,Result.andThen]
  exact hK _ _ h
def intC (z:Int):List Value:=[.int .i64 z]
theorem intC_len (z:Int):(intC z).length=1:=rfl
theorem owns_nil (w:World) (base:Nat) (e:TypeId) (k:Nat):w.ownsRow base e k (.slice none 0 0) 0 []:=⟨by simp,.inl ⟨rfl,rfl⟩⟩
theorem copy_any (a:Option Addr) (len cap:Nat) (xs:List Int) (w:World) (hl:xs.length=len) (hp:SlA w 1 intC a xs) (hlen:len≤1048576) :
  Calls Tryz.prog 36 #[.slice a len cap] w fun e w'=>(∃ sv,e=.returned sv∧w'.ownsRow w.heap.size 3 1 sv len (xs.flatMap intC))∧Below w.heap.size w w':=by
 have HP:Hid (SlA w 1 intC a xs):=hp
 have HL:Hid (xs.length=len):=hl
 clear hp hl
 go_enter Tryz.func36,Tryz.ntmps36
 go_wp2_with fail
 go_loopw [3,8] (fun o i wr=>∃ (m:Nat) (sv:Value),m≤len∧i=.int .i64 m∧sv=o∧Below w.heap.size w wr∧Hid (wr.ownsRow w.heap.size 3 1 sv m ((xs.take m).flatMap intC))) (fun _ i _=>len-(intOf i).toNat)
 case atStart=>exact ⟨0,_,Nat.zero_le _,rfl,rfl,Below.refl _ _,owns_nil _ _ _ _⟩
 case round =>
  obtain ⟨m,sv,hm,rfl,rfl,hB,HO⟩:=hrel
  by_cases k1:m<len
  ·obtain ⟨x,hx⟩:∃ x,xs[m]?=some x:=⟨xs[m]'(by rw[HL.out];exact k1),by simp⟩
   obtain ⟨b,off,rfl,_,hc⟩:=HP.out m x hx
   have c0:wr.cell? ⟨b,off+m,none⟩=some (.int .i64 x):=by have h:=cell_later hB (hc 0 _ rfl);simpa using h
   have HT:Hid ((xs.take (m+1)).flatMap intC=(xs.take m).flatMap intC++intC x):=by
    show List.flatMap intC (xs.take (m+1))=_
    rw[List.take_add_one,hx];simp
   clear hx hc
   have hy:=bw1 wr (.cells #[.int .i64 x] 3)
   obtain ⟨g',cap',w2,hr,ho',hg⟩:=app_gen 55 3 1 8 Tryz.underlying55 (by kernel_rfl) (by omega) (by omega) w.heap.size (wr.alloc (.cells #[.int .i64 x] 3)) sv m _ (intC x) wr.heap.size 55 (owns_later hy HO.out) (qKz _ _) rfl (by intro u hu;simp[intC] at hu;subst hu;rfl) (by omega) (by have:=hB.size;simp;omega)
   have HR:Hid ((Builtin.append_ #[55,55] 55 #[sv,.slice (some ⟨wr.heap.size,0,none⟩) 1 1]).run Tryz.prog (wr.alloc (.cells #[.int .i64 x] 3))=.ok (.slice (some ⟨g',0,none⟩) (m+1) cap') w2):=hr
   have hB2:Below w.heap.size w w2:=below_grown (hB.trans (hy.mono hB.size)) (by have:=hB.size;simp;omega) (owns_later hy HO.out) (Nat.le_refl _) hg
   have HO2:Hid (w2.ownsRow w.heap.size 3 1 (.slice (some ⟨g',0,none⟩) (m+1) cap') (m+1) ((xs.take (m+1)).flatMap intC)):=by show w2.ownsRow _ _ _ _ _ _;rw[HT.out];exact ho'
   clear hr ho' hg hy HT HO
   go_wp2_with (at_builtin;refine qEz rfl _ _ _ rfl _ _ _ _ rfl rfl HR.out ?_)
   go_roundw
   case rel=>exact ⟨m+1,_,by omega,by go_num,rfl,hB2,HO2⟩
   case measure=>simp[intOf];omega
  ·have hml:m=len:=by omega
   subst hml
   have HR:Hid (wr.ownsRow w.heap.size 3 1 sv m (xs.flatMap intC)):=by have h:=HO.out;rw[List.take_of_length_le (by rw[HL.out];omega)] at h;exact h
   clear HO
   go_wp2_with fail
   go_ret
   exact ⟨⟨_,rfl,HR.out⟩,hB⟩
end Go.Proofs.YtfejmalmnjmanaaGreatDoor
