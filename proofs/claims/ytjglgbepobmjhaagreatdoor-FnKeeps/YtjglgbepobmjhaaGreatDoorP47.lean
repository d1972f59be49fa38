import Derived.Test.YtjglgbepobmjhaaGreatDoorP46
import Derived.Test.YtjglgbepobmjhaaGreatDoorTie
import Derived.Test.YtjglgbepobmjhaaGreatDoorCards
import Derived.OpenVars
import Derived.OpenShut
import Derived.LaidHandle
import Derived.LaidLaws
import Derived.Stop.LaidErr
import Derived.SevenTiedAt
import Derived.FnData
import Derived.ChangeVars
set_option linter.unusedVariables false
set_option linter.unusedSimpArgs false
set_option maxRecDepth 20000
set_option maxHeartbeats 8000000
namespace Go.Proofs.YtjglgbepobmjhaaGreatDoor.lawKeeps
open Go.ChangeShapes Go.WideShapes Go.ChangeAt Go.RowKit M
theorem et:Tryz.prog.globalNamed "errors.errorType" = some 0:=by kernel_rfl
theorem lt:Tryz.prog.globalNamed "loop.example/punch/impl.layouts" = some 6:=by kernel_rfl
theorem rt:(Tryz.prog.cutTypes.find? (·.1 == "internal/reflectlite.rtype")).map (·.2)=some 188:=by kernel_rfl
theorem oneRow:((List.range 518).filter fun t=>Tryz.prog.rowNamed t [101,114,114,111,114])=[60]:=by kernel_rfl
theorem tsize:Tryz.prog.types.size=518:=by kernel_rfl
theorem layType:(Tryz.prog.globals[(6:Nat)]?).map (·.type)=some 340:=by kernel_rfl
theorem layIs:(Rows.laid_loop_example_punch_impl_layouts:DataW Unit)=.agg (layT.map fun l=>.agg (l.map fun z=>.lit (.int .i64 z))):=rfl
theorem err_of {W:World} (h:handlesMet Tryz.prog [("errors.errorType",Rows.laid_errors_errorType)] W):ErrAt W:=by
 obtain⟨name,u,ty,e1,e2,e3,e4,e5⟩:=h _ (List.mem_singleton.2 rfl)
 have en:name=[101,114,114,111,114]:=(Option.some.inj e1).symm
 subst en
 obtain rfl:=Option.some.inj (rt.symm.trans e2)
 have hm:ty∈(List.range 518).filter fun t=>Tryz.prog.rowNamed t [101,114,114,111,114]:=List.mem_filter.2 ⟨List.mem_range.2 (by rw[←tsize];exact e3),e4⟩
 rw[oneRow]at hm
 obtain rfl:=List.mem_singleton.1 hm
 have hh:typeHandle Tryz.prog 60=.pointer (some ⟨12,60,none⟩):=by kernel_rfl
 rw[hh]at e5
 unfold ErrAt
 simpa using World.var?_cell et e5 0
theorem lay_len:∀l∈layT,l.length=4:=by decide
theorem lay_of {W:World} {rest:List (String × DataW Unit)} (h:laidMet Tryz.prog (("loop.example/punch/impl.layouts",Rows.laid_loop_example_punch_impl_layouts) :: rest) W):LayAt W:=by
 obtain⟨ps,hv,_⟩:=h
 obtain⟨g,t,cs,fuel,p,q,h1,h2,h3,h4,h5,h6⟩:=hv
 obtain rfl:=Option.some.inj (lt.symm.trans h1)
 obtain rfl:=Option.some.inj (layType.symm.trans h2)
 have hc:=fun j=>World.var?_cell lt h3 j
 obtain⟨xs,m,_,hx,hl,hlen,he⟩:=DataW.trod_array Tryz.underlying340 h4
 have k4:Tryz.prog.cellsOf 339=4:=by kernel_rfl
 have k1:Tryz.prog.cellsOf 231=1:=by kernel_rfl
 have hC:Tryz.prog.cellsOf 340=172:=by kernel_rfl
 rw[k4]at he
 rw[hC]at hl
 have hd:layT.map (fun l=>(.agg (l.map fun z=>.lit (.int .i64 z)):DataW Unit))=xs.map (·.1):=by
  have:=congrArg Prod.fst hx
  rw[layIs]at this
  simpa using this
 intro i j hi hj
 obtain⟨l,hli⟩:∃l,layT[i]?=some l:=⟨layT[i]'hi,List.getElem?_eq_getElem _⟩
 obtain⟨y,hy⟩:∃y,xs[i]?=some y:=⟨xs[i]'(by omega),List.getElem?_eq_getElem _⟩
 have hyl:y.1=.agg (l.map fun z=>.lit (.int .i64 z)):=by
  have:=congrArg (fun a=>a[i]?) hd
  simp only[List.getElem?_map,hli,hy,Option.map_some,Option.some.injEq]at this
  exact this.symm
 have ht:=he i hi
 rw[hy]at ht
 obtain⟨zs,n,_,hz,hzl,hzn,hf⟩:=DataW.trod_struct Tryz.underlying339 ht
 rw[k4]at hzl
 obtain⟨z0,z1,z2,z3,hl4⟩:=list4 (lay_len l (List.mem_of_getElem? hli))
 obtain⟨c0,c1,c2,c3,hcs⟩:=list4 hzl
 obtain⟨y0,y1,y2,y3,rfl⟩:=list4 hzn
 have hz1:=congrArg Prod.fst hz
 rw[hyl,hl4]at hz1
 simp only[List.map_cons,List.map_nil,DataW.agg.injEq,List.cons.injEq,and_true]at hz1
 obtain⟨q0,q1,q2,q3⟩:=hz1
 rw[hcs]at hf
 have t0:DataW.trod (fun _=>()) Tryz.prog W 0 (fun _=>true) false n 231 [c0]=some y0:=by simpa [k1] using hf 0 _ rfl
 have t1:DataW.trod (fun _=>()) Tryz.prog W 0 (fun _=>true) false n 231 [c1]=some y1:=by simpa [k1] using hf 1 _ rfl
 have t2:DataW.trod (fun _=>()) Tryz.prog W 0 (fun _=>true) false n 231 [c2]=some y2:=by simpa [k1] using hf 2 _ rfl
 have t3:DataW.trod (fun _=>()) Tryz.prog W 0 (fun _=>true) false n 231 [c3]=some y3:=by simpa [k1] using hf 3 _ rfl
 obtain⟨v0,e0,x0,_⟩:=DataW.trod_int Tryz.underlying231 t0
 obtain⟨v1,e1,x1,_⟩:=DataW.trod_int Tryz.underlying231 t1
 obtain⟨v2,e2,x2,_⟩:=DataW.trod_int Tryz.underlying231 t2
 obtain⟨v3,e3,x3,_⟩:=DataW.trod_int Tryz.underlying231 t3
 rw[x0]at q0
 rw[x1]at q1
 rw[x2]at q2
 rw[x3]at q3
 simp only[DataW.lit.injEq,Lit.int.injEq,true_and]at q0 q1 q2 q3
 subst q0 q1 q2 q3
 simp only[List.cons.injEq,and_true]at e0 e1 e2 e3
 subst e0 e1 e2 e3
 have hcell:∀j v,([.int .i64 z0,.int .i64 z1,.int .i64 z2,.int .i64 z3]:List Value)[j]?=some v→W.cell? ⟨6,i*4+j,none⟩=some v:=by
  intro j v hv
  rw[hc,←Array.getElem?_toList]
  have hj4:j<4:=by have:=(List.getElem?_eq_some_iff.1 hv).1;simpa using this
  have:=congrArg (fun a=>a[j]?) hcs
  simp only[List.getElem?_take,List.getElem?_drop,hj4,if_true]at this
  rw[this];exact hv
 have hg:layT.getD i []=l:=by rw[List.getD_eq_getElem?_getD,hli];rfl
 unfold li
 rw[hg,hl4]
 match j,hj with
 | 0,_=>exact hcell 0 _ rfl
 | 1,_=>exact hcell 1 _ rfl
 | 2,_=>exact hcell 2 _ rfl
 | 3,_=>exact hcell 3 _ rfl
theorem open_byte {H:Type} {enc:TypeId × Value→H} {w:World} {spare:Nat→Bool} {held:Bool} {fuel:Nat} {cs:List Value} {x:DataW H × List MemPlace} (h:DataW.trod enc Tryz.prog w 0 spare held fuel 5 cs=some x):∃u:UInt8,cs=byteU u∧True:=by
 obtain⟨k,e0,_,wk⟩:=DataW.trod_int Tryz.underlying5 h
 have hw:=(Lit.wf_int_iff .u8 k).1 wk
 have h0:0≤k∧k≤255:=by simpa [IntKind.min,IntKind.max,IntKind.bits,IntKind.signed] using hw
 refine⟨UInt8.ofNat k.toNat,?_,trivial⟩
 rw[e0]
 unfold byteU
 rw[UInt8.toNat_ofNat']
 congr 2
 omega
theorem open_bytes {H:Type} {enc:TypeId × Value→H} {w:World} {spare:Nat→Bool} {held:Bool} {fuel:Nat} {sv:Value} {x:DataW H × List MemPlace} (h:DataW.trod enc Tryz.prog w 0 spare held fuel 22 [sv]=some x) :
  ∃(a:Option Addr) (cap:Nat) (xs:List UInt8),sv=.slice a xs.length cap∧SlA w 1 byteU a xs∧(∀v∈xs,True)∧xs.length≤maxLen :=
 open_sl (0:UInt8) byteU 1 (fun _=>True) 22 5 Tryz.underlying22 (by kernel_rfl) (by omega) byteU_len (fun fuel cs x h=>open_byte h) h
theorem own:ownKnob Tryz.prog.godebug=none:=by kernel_rfl
theorem laidOut:laidOutB Tryz.prog=true:=by kernel_rfl
theorem rowed:varsRowed Tryz.prog Rows.fnKeepsSpec.vars=true:=by kernel_rfl
theorem vars_len {H:Type} {enc:TypeId × Value→H} {P:Program} {w:World} {spare:Nat→Bool}:∀ {ns:List String} {gs:List (DataW H)} {ps:List MemPlace},DataW.TrodVars enc P w spare ns gs ps→gs.length=ns.length
 | [],[],_,_=>rfl
 | [],_ :: _,_,h=>h.elim
 | _ :: _,[],_,h=>h.elim
 | n :: ns,d :: ds,ps,h=>by
  obtain⟨g,t,cs,fuel,p,q,h1,h2,h3,h4,hs,e⟩:=h
  simp[vars_len hs]
theorem list6 {α:Type} {l:List α} (h:l.length=6):∃a b c d e f,l=[a,b,c,d,e,f]:=by
 match l,h with
 | [a,b,c,d,e,f],_=>exact⟨a,b,c,d,e,f,rfl⟩
theorem star : "*" ++ "errors.errorString" = "*errors.errorString":=by decide
theorem over_named (u:TypeId) (h:Tryz.prog.typeName? 3 u=some "*errors.errorString"):u=484 :=
 typeName_ptr_named (nm:= "errors.errorString") (by rw[star];kernel_rfl) (by kernel_rfl) (by decide) u (by rw[star];exact h)
theorem met_of {W:World} (h:laidMetH Tryz.prog Rows.fnKeepsRow.laid W):LayAt W∧ErrAt W∧OvAt W:=by
 have h':laidMet Tryz.prog [("math/bits.deBruijn32tab",Rows.laid_math_bits_deBruijn32tab),("math/bits.deBruijn64tab",Rows.laid_math_bits_deBruijn64tab),("internal/strconv.uint64pow10",Rows.laid_internal_strconv_uint64pow10),("loop.example/punch/impl.layouts",Rows.laid_loop_example_punch_impl_layouts),("loop.example/punch/impl.errGone",Rows.laid_loop_example_punch_impl_errGone),("loop.example/punch/impl.errOver",Rows.laid_loop_example_punch_impl_errOver),("loop.example/punch/impl.stateNames",Rows.laid_loop_example_punch_impl_stateNames),("loop.example/punch/impl.handlerNames",Rows.laid_loop_example_punch_impl_handlerNames),("loop.example/punch/impl.typeNames",Rows.laid_loop_example_punch_impl_typeNames)] W∧handlesMet Tryz.prog [("errors.errorType",Rows.laid_errors_errorType)] W:=h
 refine⟨lay_of h'.1.tail.tail.tail,err_of h'.2,?_⟩
 have hs:=h'.1.tail.tail.tail.tail.tail
 have hg:Tryz.prog.globalNamed "loop.example/punch/impl.errOver" = some 2:=by kernel_rfl
 obtain⟨a,s,hv,_,_,_⟩:=laid_sentinel (P:=Tryz.prog) (tp:=484) (te:=506) (ts:=9) (ti:=60) hs hg (by kernel_rfl) Tryz.underlying60 over_named Tryz.underlying484 Tryz.underlying506 rfl rfl Tryz.underlying9 (by kernel_rfl) (by kernel_rfl)
 exact⟨_,by simpa using World.var?_cell hg hv 0⟩
def litV:Lit→Value
 | .int k z=>.int k z
 | .string bs=>.string ⟨bs.toArray⟩
 | _=>undef
def fl1:DataW Unit→List Value
 | .lit l=>[litV l]
 | _=>[]
def fl2:DataW Unit→List Value
 | .agg l=>l.flatMap fun x=>match x with
  | .agg l2=>l2.flatMap fl1
  | y=>fl1 y
 | y=>fl1 y
def putIn (cs:Array Value):Obj→Obj
 | .cells _ t frozen=>.cells cs t frozen
 | o=>o
def lowB (P:Program):Nat:=(World.holding P default ⟨#[],#[],[]⟩).heap.size
def overS:ByteArray:=⟨#[116,104,101,32,114,117,110,32,105,115,32,111,118,101,114]⟩
def goneS:ByteArray:=⟨#[116,104,101,32,116,97,115,107,32,105,115,32,103,105,118,101,110,32,117,112]⟩
def laidWorld (P:Program) (os:Os):World :=
 let w0:=World.holding P os ⟨#[.cells #[.string overS] 506,.cells #[.string goneS] 506],#[],[]⟩
 { w0 with heap:=(((((((((w0.heap.modify 0 (putIn #[.iface 188 (.agg #[.pointer (some ⟨12,60,none⟩)])])).modify 1 (putIn (fl2 Rows.laid_loop_example_punch_impl_typeNames).toArray)).modify 2 (putIn #[.iface 484 (.pointer (some ⟨lowB P,0,none⟩))])).modify 3 (putIn (fl2 Rows.laid_loop_example_punch_impl_stateNames).toArray)).modify 4 (putIn #[.iface 484 (.pointer (some ⟨lowB P+1,0,none⟩))])).modify 6 (putIn (fl2 Rows.laid_loop_example_punch_impl_layouts).toArray)).modify 7 (putIn (fl2 Rows.laid_loop_example_punch_impl_handlerNames).toArray)).modify 9 (putIn (fl2 Rows.laid_internal_strconv_uint64pow10).toArray)).modify 10 (putIn (fl2 Rows.laid_math_bits_deBruijn32tab).toArray)).modify 11 (putIn (fl2 Rows.laid_math_bits_deBruijn64tab).toArray) }
theorem laid_met (os:Os) (args:Array Value):laidMetH Tryz.prog Rows.fnKeepsRow.laid ((laidWorld Tryz.prog os).forCall (fun _ _=>0) ⟨#[],args,[]⟩).memory :=
 laidMetH_of_parts (laidMet_of_run' 8 (by kernel_rfl) (by kernel_rfl)) (by kernel_rfl)
set_option maxRecDepth 100000 in
theorem lifted (os:Os) (started:os.Started) (H:Type) (enc:TypeId × Value→H) :
  ReturnsInHanded {} Tryz.checked os 3 .any (fun w args=>(Rows.fnKeepsSpec.pre enc Tryz.prog Tryz.f3 [] false w args∧laidMetH Tryz.prog Rows.fnKeepsRow.laid w)∧sizedMet enc Tryz.prog Tryz.f3 (OpenSpec.ofChange Rows.fnKeepsSpec) false w args)
   (Rows.fnKeepsSpec.post enc Tryz.prog Tryz.f3 false true false false):=by
 refine returnsInHanded_of_change_and (C:=Tryz.checked) (X:=fun w _=>laidMetH Tryz.prog Rows.fnKeepsRow.laid w) (fun _ _ _ hh h=>h.of_heap hh) own started (by kernel_rfl) Tryz.func3
  (ChangeSpec.witness_at (enc:=enc) (C:=Tryz.checked) (os:=os) (X:=fun w _=>laidMetH Tryz.prog Rows.fnKeepsRow.laid w) false (laidWorld Tryz.prog os) #[.slice none 0 0] 8 rfl (by kernel_rfl) (by kernel_rfl) (by kernel_rfl) (by kernel_rfl) (by kernel_rfl) (laid_met os _)) ?_
 intro W base args ds gs before hval0 hW _ _ hL _
 have hval:∀(j:Nat) t v,Tryz.f3.params[j]?=some t→args[j]?=some v→Value.okWide Tryz.prog W .any base t v:=hval0
 have hW':=hW
 obtain⟨p,q,hA0,hV,rfl,hfz,hnd⟩:=hW
 have hA:DataW.TrodAll enc Tryz.prog W 0 (fun _=>true) true Tryz.f3.params.toList args.toList ds p:=hA0
 rw[Tryz.params3]at hA hval
 obtain⟨v0,vs0,d0,ds0,p0,q0,hargs,rfl,rfl,h0,r0⟩:=trodAll_cons hA
 obtain⟨rfl,rfl,rfl⟩:=trodAll_nil r0
 obtain rfl:args=#[v0]:=by cases args;simp_all
 have k0:=h0
 have lt0:∀x∈p0,x.block<W.heap.size:=by obtain⟨m,hm⟩:=k0;exact DataW.trod_lt m _ _ _ hm
 obtain⟨a0,ln0,cp0,hv0⟩:=okWide_slice Tryz.underlying22 (hval 0 22 v0 rfl rfl)
 obtain⟨fuel,hf⟩:=h0
 have hc0:v0.cells.toList=[v0]:=by rw[hv0];rfl
 rw[hc0]at hf
 obtain⟨a,cap,xs,rfl,hp,_,hlm⟩:=open_bytes hf
 obtain⟨g1,g2,g3,g4,g5,g6,hgs⟩:=list6 (vars_len hV)
 subst hgs
 obtain⟨hlay,herr,hov⟩:=met_of hL
 clear hA0 hval0 hval hf
 refine (walk a xs.length cap xs W hp rfl hlay herr hov).mono fun e W' ⟨he,bel⟩=>?_
 subst he
 exact⟨_,rfl,_,_,_,[],_,_,hW',trodAll_mk1 (shut_bool Tryz.underlying4 _),(trodAll_cons_mk (Below.trod laidOut (by kernel_rfl) (of_decide_eq_true (by kernel_rfl)) k0 bel lt0) trodAll_mk0),Below.trodVars laidOut bel rowed hV,bel.frame _,fun h=>by cases h⟩
end Go.Proofs.YtjglgbepobmjhaaGreatDoor.lawKeeps
