import Derived.Test.YtfejmalmnjmanaaGreatDoorS06
import Derived.Test.YtfejmalmnjmanaaGreatDoorS02
import Derived.Test.YtfejmalmnjmanaaGreatDoorS01
import Derived.Test.YtfejmalmnjmanaaGreatDoorRows
import Derived.WalkKit
import Derived.WalkSpells
import Derived.WalkLawsBesides
import Derived.ProofKit
import Derived.OpenShut
import Derived.Below
import Derived.Laws.FloatArith
import Derived.Deep.RegionWith
import Derived.Test.YtfejmalmnjmanaaGreatDoorS03
import Derived.Deep.QuietTactic
import Derived.BigQuiet
import Derived.LaidEql
import Derived.Stop.Asserts
import Derived.RowKitTokens
import Derived.Test.YtfejmalmnjmanaaGreatDoorS41
import Derived.Test.YtfejmalmnjmanaaGreatDoorS40
import Derived.Test.YtfejmalmnjmanaaGreatDoorS39
import Derived.Test.YtfejmalmnjmanaaGreatDoorS38
import Derived.Test.YtfejmalmnjmanaaGreatDoorS20
import Derived.Test.YtfejmalmnjmanaaGreatDoorS19
import Derived.Test.YtfejmalmnjmanaaGreatDoorS14
import Derived.Test.YtfejmalmnjmanaaGreatDoorS13
import Derived.Laws.OwnMore
import Derived.Laws.Externs
import Derived.Test.YtfejmalmnjmanaaGreatDoorS42
import Derived.Test.YtfejmalmnjmanaaGreatDoorS34
import Derived.Test.YtfejmalmnjmanaaGreatDoorS27
import Derived.Test.YtfejmalmnjmanaaGreatDoorS26
import Derived.Test.YtfejmalmnjmanaaGreatDoorS25
import Derived.Test.YtfejmalmnjmanaaGreatDoorS18
import Derived.Test.YtfejmalmnjmanaaGreatDoorS17
import Derived.Test.YtfejmalmnjmanaaGreatDoorS07
import Derived.OwnWalk
import Derived.Test.YtfejmalmnjmanaaGreatDoorS05
import Derived.Test.YtfejmalmnjmanaaGreatDoorS04
import Derived.Test.YtfejmalmnjmanaaGreatDoorS12
import Derived.Test.YtfejmalmnjmanaaGreatDoorS10
import Derived.Test.YtfejmalmnjmanaaGreatDoorS09
import Derived.Test.YtfejmalmnjmanaaGreatDoorS08
import Derived.LoopN
import Derived.Test.YtfejmalmnjmanaaGreatDoorS11
import Derived.Test.YtfejmalmnjmanaaGreatDoorS15
import Derived.Test.YtfejmalmnjmanaaGreatDoorS16
import Derived.BigRegion
import Derived.Test.YtfejmalmnjmanaaGreatDoorS21
import Derived.Test.YtfejmalmnjmanaaGreatDoorS22
import Derived.Deep.CutRange
import Derived.Deep.RegionLaw
import Derived.Test.YtfejmalmnjmanaaGreatDoorS24
import Derived.Test.YtfejmalmnjmanaaGreatDoorS23
import Derived.Test.YtfejmalmnjmanaaGreatDoorS28
import Derived.Lib.SliceRun
import Derived.Test.YtfejmalmnjmanaaGreatDoorS33
import Derived.Test.YtfejmalmnjmanaaGreatDoorS29
import Derived.Test.YtfejmalmnjmanaaGreatDoorS30
import Derived.Test.YtfejmalmnjmanaaGreatDoorS32
import Derived.Test.YtfejmalmnjmanaaGreatDoorS31
import Derived.Test.YtfejmalmnjmanaaGreatDoorS37
import Derived.Test.YtfejmalmnjmanaaGreatDoorS35
import Derived.Test.YtfejmalmnjmanaaGreatDoorS36
import Derived.Deep.Slices
import Derived.Deep.Strs
import Derived.DataShut
import Derived.ChangeSame
import Derived.Test.YtfejmalmnjmanaaGreatDoorS45
import Derived.Test.YtfejmalmnjmanaaGreatDoorS43
import Derived.Test.YtfejmalmnjmanaaGreatDoorS44
import Derived.Test.YtfejmalmnjmanaaGreatDoorTie
import Derived.Test.YtfejmalmnjmanaaGreatDoorCards
import Derived.OpenVars
import Derived.LaidHandle
import Derived.LaidLaws
import Derived.SevenTiedAt
import Derived.FnData
set_option linter.unusedVariables false
set_option linter.unusedSimpArgs false
set_option maxRecDepth 20000
set_option maxHeartbeats 8000000
namespace Go.Proofs.YtfejmalmnjmanaaGreatDoor
open Go.RowKit
attribute [local go_sem] run_store_float
theorem eqf_any (c p i:Int) (w:World):Calls Tryz.prog 9 #[FV c p i,FV c p i] w fun e w'=>e=.returned (.bool true)∧Below w.heap.size w w':=by
 go_enter Tryz.func9,Tryz.ntmps9
 go_wp2
 go_ret
 exact ⟨rfl,bw2 _ _ _⟩
end Go.Proofs.YtfejmalmnjmanaaGreatDoor
namespace Go.Proofs.YtfejmalmnjmanaaGreatDoor
open Go.RowKit Go.Extern.Stop Go.Stop Go.Extern
theorem as_nil (t:Value) (w:World) :
  Calls Tryz.prog 47 #[.nilIface,t] w fun e w'=>e=.returned (.bool false)∧w'=w:=by
 go_enter Tryz.func47,Tryz.ntmps47
 go_wp2
 go_ret
 exact ⟨rfl,rfl⟩
theorem As.valueOfP (t:Addr) (w:World):(ReflectliteValue.unpack (.iface 103 (.pointer (some t)))).run Tryz.prog w
  = .ok (.agg #[.pointer (some ⟨3,103,none⟩),.pointer (some ⟨w.heap.size,0,none⟩),.int .u64 150]) (w.alloc (.cells #[.pointer (some t)] 103)):=by kernel_rfl
theorem As.typeP (a:Addr) (w:World):(ReflectliteValue.methodAny (ReflectliteValue.valueError "reflectlite.Value.Type" 0) (fun t _ _ _=>ReflectliteType.toType t) #[.agg #[.pointer (some ⟨3,103,none⟩),.pointer (some a),.int .u64 150]]).run Tryz.prog w
  = .ok (.iface 194 (.agg #[.pointer (some ⟨3,103,none⟩)])) w:=by kernel_rfl
theorem As.methodKind (d:Nat) (h:Value) (w:World):(Go.method (d+2) 194 (.agg #[h]) "Kind").run Tryz.prog w=.ok (168,h) w:=by kernel_rfl
theorem As.kindP (w:World):((ReflectliteType.abiMethod fun t=>Functor.map (fun a:Nat=>Value.int IntKind.u8 (a:Int)) (Rtype.kind t)) #[.pointer (some ⟨3,103,none⟩)]).run Tryz.prog w=.ok (.int .u8 22) w:=by kernel_rfl
theorem As.kindT (w:World):((ReflectliteType.abiMethod fun t=>Functor.map (fun a:Nat=>Value.int IntKind.u8 (a:Int)) (Rtype.kind t)) #[.pointer (some ⟨3,101,none⟩)]).run Tryz.prog w=.ok (.int .u8 25) w:=by kernel_rfl
theorem rlm (z:Sem Value) (f:TypeId→Addr→Nat→Nat→Sem Value) (v:Value) :
  ReflectliteValue.method z f #[v]=(do match ← ReflectliteValue.parts v with|none=>z|some (t,a,fl)=>f t a fl (fl % 32)):=rfl
theorem As.partsP (a:Addr) (w:World):(ReflectliteValue.parts (.agg #[.pointer (some ⟨3,103,none⟩),.pointer (some a),.int .u64 150])).run Tryz.prog w=.ok (some (103,a,150)) w:=by kernel_rfl
theorem As.isNilP (a p:Addr) (W:World) (ha:W.cell? a=some (.pointer (some p))) :
  (ReflectliteValue.method (ReflectliteValue.valueError "reflectlite.Value.IsNil" 0) ReflectliteValue.isNil #[.agg #[.pointer (some ⟨3,103,none⟩),.pointer (some a),.int .u64 150]]).run Tryz.prog W=.ok (.bool false) W:=by
 rw[rlm]
 simp only[Sem.run_bind,As.partsP,Result.andThen]
 simp[ReflectliteValue.isNil,loadVar,isAgg,underlying,Tryz.underlying103,ha,Result.andThen]
theorem As.methodElem (d:Nat) (h:Value) (w:World):(Go.method (d+2) 194 (.agg #[h]) "Elem").run Tryz.prog w=.ok (178,.agg #[h]) w:=by kernel_rfl
theorem As.methodImplements (d:Nat) (h:Value) (w:World):(Go.method (d+2) 194 (.agg #[h]) "Implements").run Tryz.prog w=.ok (179,.agg #[h]) w:=by kernel_rfl
theorem As.methodAssignableTo (d:Nat) (h:Value) (w:World):(Go.method (d+2) 194 (.agg #[h]) "AssignableTo").run Tryz.prog w=.ok (176,.agg #[h]) w:=by kernel_rfl
theorem As.elemP (w:World):(ReflectliteType.method ReflectliteType.elem #[.agg #[.pointer (some ⟨3,103,none⟩)]]).run Tryz.prog w=.ok (.iface 194 (.agg #[.pointer (some ⟨3,101,none⟩)])) w:=by kernel_rfl
theorem As.implementsT (w:World):(ReflectliteType.relation "Implements" ReflectliteType.implements_ #[.agg #[.pointer (some ⟨3,101,none⟩)],.iface 194 (.agg #[.pointer (some ⟨3,48,none⟩)])]).run Tryz.prog w=.ok (.bool true) w:=by kernel_rfl
theorem As.typeOfT (v:Value) (w:World):(ReflectliteType.typeOf #[.iface 101 v]).run Tryz.prog w=.ok (.iface 194 (.agg #[.pointer (some ⟨3,101,none⟩)])) w:=by kernel_rfl
theorem As.assignableT (w:World):(ReflectliteType.relation "AssignableTo" ReflectliteType.assignableTo #[.agg #[.pointer (some ⟨3,101,none⟩)],.iface 194 (.agg #[.pointer (some ⟨3,101,none⟩)])]).run Tryz.prog w=.ok (.bool true) w:=by kernel_rfl
theorem As.valueOfT (c p i:Int) (w:World):(ReflectliteValue.unpack (.iface 101 (FV c p i))).run Tryz.prog w
  = .ok (.agg #[.pointer (some ⟨3,101,none⟩),.pointer (some ⟨w.heap.size,0,none⟩),.int .u64 153]) (w.alloc (.cells #[.int .i64 c,.int .i64 p,.int .i64 i] 101)):=by kernel_rfl
theorem As.elemOfP (w:World):(Rtype.elem? 103).run Tryz.prog w=.ok (some 101) w:=by kernel_rfl
theorem As.mkT (p:Addr) (w:World):(ReflectliteValue.mk 101 p ReflectliteValue.flagAddr).run Tryz.prog w=.ok (.agg #[.pointer (some ⟨3,101,none⟩),.pointer (some p),.int .u64 409]) w:=by kernel_rfl
theorem As.elemVP (a p:Addr) (W:World) (ha:W.cell? a=some (.pointer (some p))) :
  (ReflectliteValue.method (ReflectliteValue.valueError "reflectlite.Value.Elem" 0) ReflectliteValue.elem #[.agg #[.pointer (some ⟨3,103,none⟩),.pointer (some a),.int .u64 150]]).run Tryz.prog W
   = .ok (.agg #[.pointer (some ⟨3,101,none⟩),.pointer (some p),.int .u64 409]) W:=by
 rw[rlm]
 simp only[Sem.run_bind,As.partsP,Result.andThen]
 simp[ReflectliteValue.elem,loadVar,isAgg,underlying,Tryz.underlying103,ha,Result.andThen,As.elemOfP,As.mkT]
theorem As.partsTa (a:Addr) (w:World):(ReflectliteValue.parts (.agg #[.pointer (some ⟨3,101,none⟩),.pointer (some a),.int .u64 409])).run Tryz.prog w=.ok (some (101,a,409)) w:=by kernel_rfl
theorem As.partsT (a:Addr) (w:World):(ReflectliteValue.parts (.agg #[.pointer (some ⟨3,101,none⟩),.pointer (some a),.int .u64 153])).run Tryz.prog w=.ok (some (101,a,153)) w:=by kernel_rfl
theorem As.directT (w:World):(Rtype.directlyAssignable 101 101).run Tryz.prog w=.ok true w:=by kernel_rfl
theorem As.load3 (b:Nat) (c p i:Value) (W:World) (hb0:W.cell? ⟨b,0,none⟩=some c) (hb1:W.cell? ⟨b,1,none⟩=some p) (hb2:W.cell? ⟨b,2,none⟩=some i):(loadCells ⟨b,0,none⟩ 3).run Tryz.prog W=.ok #[c,p,i] W:=by
 simp[loadCells,loadCellsFrom,Sem.run_bind,Addr.add,hb0,hb1,hb2,Result.andThen]
theorem As.store3 (tb:Nat) (c p i:Int) (o0 o1 o2:Value) (W:World) (ht0:W.cell? ⟨tb,0,none⟩=some o0) (ht1:W.cell? ⟨tb,1,none⟩=some o1) (ht2:W.cell? ⟨tb,2,none⟩=some o2) (hf:∀ j,W.frozen? ⟨tb,j,none⟩=false) :
  (storeCells ⟨tb,0,none⟩ [.int .i64 c,.int .i64 p,.int .i64 i]).run Tryz.prog W=.ok () (((W.setCell ⟨tb,0,none⟩ (.int .i64 c)).setCell ⟨tb,1,none⟩ (.int .i64 p)).setCell ⟨tb,2,none⟩ (.int .i64 i)):=by
 simp[storeCells,Addr.add,go_sem,ht0,ht1,ht2,hf]
theorem As.setT (tb b:Nat) (c p i:Int) (o0 o1 o2:Value) (W:World) (hb0:W.cell? ⟨b,0,none⟩=some (.int .i64 c)) (hb1:W.cell? ⟨b,1,none⟩=some (.int .i64 p)) (hb2:W.cell? ⟨b,2,none⟩=some (.int .i64 i)) (ht0:W.cell? ⟨tb,0,none⟩=some o0) (ht1:W.cell? ⟨tb,1,none⟩=some o1) (ht2:W.cell? ⟨tb,2,none⟩=some o2) (hf:∀ j,W.frozen? ⟨tb,j,none⟩=false) :
  (ReflectliteValue.set #[.agg #[.pointer (some ⟨3,101,none⟩),.pointer (some ⟨tb,0,none⟩),.int .u64 409],.agg #[.pointer (some ⟨3,101,none⟩),.pointer (some ⟨b,0,none⟩),.int .u64 153]]).run Tryz.prog W
   = .ok (.tuple #[]) (((W.setCell ⟨tb,0,none⟩ (.int .i64 c)).setCell ⟨tb,1,none⟩ (.int .i64 p)).setCell ⟨tb,2,none⟩ (.int .i64 i)):=by
 change (Bind.bind (ReflectliteValue.parts (.agg #[.pointer (some ⟨3,101,none⟩),.pointer (some ⟨tb,0,none⟩),.int .u64 409])) fun r=>Bind.bind (ReflectliteValue.parts (.agg #[.pointer (some ⟨3,101,none⟩),.pointer (some ⟨b,0,none⟩),.int .u64 153])) _).run Tryz.prog W=_
 simp only[Sem.run_bind,As.partsTa,As.partsT,Result.andThen]
 simp[ReflectliteValue.flagAddr,loadVar,isAgg,underlying,Tryz.underlying101,As.load3 b _ _ _ W hb0 hb1 hb2,Result.andThen,As.directT,storeVar,Value.cells,As.store3 tb c p i o0 o1 o2 W ht0 ht1 ht2 hf]
abbrev As.P1 (tb:Nat):Obj:=.cells #[.pointer (some ⟨tb,0,none⟩)] 103
abbrev As.V1 (n:Nat):Obj:=.cells #[.pointer (some ⟨3,103,none⟩),.pointer (some ⟨n,0,none⟩),.int .u64 150] 148
theorem as_hit (tb:Nat) (c p i:Int) (o0 o1 o2:Value) (w:World) (hg:w.cell? ⟨0,0,none⟩=some (.iface 194 (.agg #[.pointer (some ⟨3,48,none⟩)]))) (ht0:w.cell? ⟨tb,0,none⟩=some o0) (ht1:w.cell? ⟨tb,1,none⟩=some o1) (ht2:w.cell? ⟨tb,2,none⟩=some o2) (hf:∀ j,w.frozen? ⟨tb,j,none⟩=false) :
  Calls Tryz.prog 47 #[.iface 101 (FV c p i),.iface 103 (.pointer (some ⟨tb,0,none⟩))] w fun ev w'=>ev=.returned (.bool true)∧w'=((((((w.alloc (As.P1 tb)).alloc (As.V1 w.heap.size)).alloc (As.V1 w.heap.size)).alloc (As.T1 c p i)).setCell ⟨tb,0,none⟩ (.int .i64 c)).setCell ⟨tb,1,none⟩ (.int .i64 p)).setCell ⟨tb,2,none⟩ (.int .i64 i):=by
 have h6:=@run_callFunc_extern Tryz.prog 86 _ (fun args=>ReflectliteValue.unpack (args.getD 0 (.tuple #[]))) Tryz.func86 (by kernel_rfl) (by kernel_rfl) (by kernel_rfl) (by kernel_rfl)
 have h7:=@run_callFunc_extern Tryz.prog 87 _ (ReflectliteValue.methodAny (ReflectliteValue.valueError "reflectlite.Value.Type" 0) (fun t _ _ _=>ReflectliteType.toType t)) Tryz.func87 (by kernel_rfl) (by kernel_rfl) (by kernel_rfl) (by kernel_rfl)
 have h8:=@run_callFunc_extern Tryz.prog 88 _ (ReflectliteValue.method (ReflectliteValue.valueError "reflectlite.Value.IsNil" 0) ReflectliteValue.isNil) Tryz.func88 (by kernel_rfl) (by kernel_rfl) (by kernel_rfl) (by kernel_rfl)
 have h27:=@run_callFunc_extern Tryz.prog 168 _ (ReflectliteType.abiMethod fun t=>do pure (.int .u8 (← Rtype.kind t))) Tryz.func168 (by kernel_rfl) (by kernel_rfl) (by kernel_rfl) (by kernel_rfl)
 have h37:=@run_callFunc_extern Tryz.prog 178 _ (ReflectliteType.method ReflectliteType.elem) Tryz.func178 (by kernel_rfl) (by kernel_rfl) (by kernel_rfl) (by kernel_rfl)
 have h38:=@run_callFunc_extern Tryz.prog 179 _ (ReflectliteType.relation "Implements" ReflectliteType.implements_) Tryz.func179 (by kernel_rfl) (by kernel_rfl) (by kernel_rfl) (by kernel_rfl)
 have h10:=@run_callFunc_extern Tryz.prog 122 _ ReflectliteType.typeOf Tryz.func122 (by kernel_rfl) (by kernel_rfl) (by kernel_rfl) (by kernel_rfl)
 have h35:=@run_callFunc_extern Tryz.prog 176 _ (ReflectliteType.relation "AssignableTo" ReflectliteType.assignableTo) Tryz.func176 (by kernel_rfl) (by kernel_rfl) (by kernel_rfl) (by kernel_rfl)
 have h11:=@run_callFunc_extern Tryz.prog 123 _ (ReflectliteValue.method (ReflectliteValue.valueError "reflectlite.Value.Elem" 0) ReflectliteValue.elem) Tryz.func123 (by kernel_rfl) (by kernel_rfl) (by kernel_rfl) (by kernel_rfl)
 have h12:=@run_callFunc_extern Tryz.prog 124 _ ReflectliteValue.set Tryz.func124 (by kernel_rfl) (by kernel_rfl) (by kernel_rfl) (by kernel_rfl)
 have tO:=As.typeOfT
 have mA:=As.methodAssignableTo
 have a25:=As.assignableT
 have v25:=As.valueOfT
 have f6:=As.valueOfP
 have f7:=As.typeP
 have mK:=As.methodKind
 have mE:=As.methodElem
 have mI:=As.methodImplements
 have k27:=As.kindP
 have k25:=As.kindT
 have e27:=As.elemP
 have i25:=As.implementsT
 have b2:=bw2 w (As.P1 tb) (As.V1 w.heap.size)
 have b3:=bw3 w (As.P1 tb) (As.V1 w.heap.size) (As.V1 w.heap.size)
 have b4:=qJz b3 (As.T1 c p i)
 have n8:=As.isNilP ⟨w.heap.size,0,none⟩ ⟨tb,0,none⟩ ((w.alloc (As.P1 tb)).alloc (As.V1 w.heap.size)) (by rw[qAz (qIz (qKz _ _) _)];rfl)
 have hg2:((w.alloc (As.P1 tb)).alloc (As.V1 w.heap.size)).cell? ⟨0,0,none⟩=some (.iface 194 (.agg #[.pointer (some ⟨3,48,none⟩)])):=cell_later b2 hg
 have el:=As.elemVP ⟨w.heap.size,0,none⟩ ⟨tb,0,none⟩ (((w.alloc (As.P1 tb)).alloc (As.V1 w.heap.size)).alloc (As.V1 w.heap.size)) (by rw[qAz (qIz (qIz (qKz _ _) _) _)];rfl)
 have htl:tb<w.heap.size:=World.block_lt_of_cell? _ _ ht0
 have hfz:∀ j,((((w.alloc (As.P1 tb)).alloc (As.V1 w.heap.size)).alloc (As.V1 w.heap.size)).alloc (As.T1 c p i)).frozen? ⟨tb,j,none⟩=false:=fun j=>by
  rw[World.frozen?_alloc_old _ _ ⟨tb,j,none⟩ (by simp;omega),World.frozen?_alloc_old _ _ ⟨tb,j,none⟩ (by simp;omega),World.frozen?_alloc_old _ _ ⟨tb,j,none⟩ (by simp;omega),World.frozen?_alloc_old _ _ ⟨tb,j,none⟩ (by simp;omega)]
  exact hf j
 have hnw:((((w.alloc (As.P1 tb)).alloc (As.V1 w.heap.size)).alloc (As.V1 w.heap.size)).alloc (As.T1 c p i)).heap[w.heap.size+1+1+1]?=some (As.T1 c p i):=qNz (by simp) _
 have st:=As.setT tb (w.heap.size+1+1+1) c p i o0 o1 o2 ((((w.alloc (As.P1 tb)).alloc (As.V1 w.heap.size)).alloc (As.V1 w.heap.size)).alloc (As.T1 c p i)) (by rw[qAz hnw];rfl) (by rw[qAz hnw];rfl) (by rw[qAz hnw];rfl) (cell_later b4 ht0) (cell_later b4 ht1) (cell_later b4 ht2) hfz
 clear hnw b2 b3 b4 hg hfz
 go_enter Tryz.func47,Tryz.ntmps47
 go_wp2
 refine wp_loop_rounds 1 ?_
 rw[rounds_succ]
 go_wp2
 go_ret
 exact ⟨rfl,rfl⟩
theorem faultof_none (w:World):Calls Tryz.prog 22 #[.nilIface] w fun e w'=>e=.returned (FV 0 0 0)∧Below w.heap.size w w':=by
 go_enter Tryz.func22,Tryz.ntmps22
 go_wp2_with (go_at_call 47;refine (as_nil _ _).mono ?_;rintro e w' ⟨rfl,rfl⟩)
 exact bodyPost_ret (v:=FV 0 0 0) (by simp[results,Tryz.results22,go_sem]) rfl ⟨rfl,bw2 _ _ _⟩
end Go.Proofs.YtfejmalmnjmanaaGreatDoor
namespace Go.Proofs.YtfejmalmnjmanaaGreatDoor
open Go.RowKit
theorem faultof_some (c p i:Int) (w:World) (he:ErrAt w):Calls Tryz.prog 22 #[.iface 101 (FV c p i)] w fun e w'=>e=.returned (FV c p i)∧Below w.heap.size w w':=by
 have hB:=bw2 w (FO 0 0 0) (As.T1 0 0 0)
 have he2:=he.later hB
 have hT:((w.alloc (FO 0 0 0)).alloc (As.T1 0 0 0)).heap[w.heap.size+1]?=some (As.T1 0 0 0):=qNz (by simp) _
 have hR:((w.alloc (FO 0 0 0)).alloc (As.T1 0 0 0)).heap[w.heap.size]?=some (FO 0 0 0):=qIz (qKz _ _) _
 have t0:((w.alloc (FO 0 0 0)).alloc (As.T1 0 0 0)).cell? ⟨w.heap.size+1,0,none⟩=some (.int .i64 0):=by rw[qAz hT];rfl
 have t1:((w.alloc (FO 0 0 0)).alloc (As.T1 0 0 0)).cell? ⟨w.heap.size+1,1,none⟩=some (.int .i64 0):=by rw[qAz hT];rfl
 have t2:((w.alloc (FO 0 0 0)).alloc (As.T1 0 0 0)).cell? ⟨w.heap.size+1,2,none⟩=some (.int .i64 0):=by rw[qAz hT];rfl
 have z:=qGz hT
 go_enter Tryz.func22,Tryz.ntmps22
 go_wp2_with fail
 refine (as_hit (w.heap.size+1) c p i _ _ _ _ he2 t0 t1 t2 z).mono ?_
 rintro e w9 ⟨rfl,hw9⟩
 have hB9:Below w.heap.size w w9:=by
  rw[hw9]
  exact (((qJz (qJz (qJz (qJz hB _) _) _) _).setCell (p:=⟨w.heap.size+1,0,none⟩) (by simp) _).setCell (p:=⟨w.heap.size+1,1,none⟩) (by simp) _).setCell (p:=⟨w.heap.size+1,2,none⟩) (by simp) _
 have hT9:w9.heap[w.heap.size+1]?=some (.cells (putl #[.int .i64 0,.int .i64 0,.int .i64 0] 0 [.int .i64 c,.int .i64 p,.int .i64 i]) 101):=by
  rw[hw9]
  exact qLz (qLz (qLz (qIz (qIz (qIz (qIz hT _) _) _) _) 0 _) 1 _) 2 _
 have hR9:w9.heap[w.heap.size]?=some (FO 0 0 0):=by
  rw[hw9]
  exact qFz (qFz (qFz (qIz (qIz (qIz (qIz hR _) _) _) _) (by omega) 0 _) (by omega) 1 _) (by omega) 2 _
 have d0:w9.cell? ⟨w.heap.size+1,0,none⟩=some (.int .i64 c):=by rw[qAz hT9];rfl
 have d1:w9.cell? ⟨w.heap.size+1,1,none⟩=some (.int .i64 p):=by rw[qAz hT9];rfl
 have d2:w9.cell? ⟨w.heap.size+1,2,none⟩=some (.int .i64 i):=by rw[qAz hT9];rfl
 have r0:w9.cell? ⟨w.heap.size,0,none⟩=some (.int .i64 0):=by rw[qAz hR9];rfl
 have r1:w9.cell? ⟨w.heap.size,1,none⟩=some (.int .i64 0):=by rw[qAz hR9];rfl
 have r2:w9.cell? ⟨w.heap.size,2,none⟩=some (.int .i64 0):=by rw[qAz hR9];rfl
 have z9:=qGz hR9
 clear hw9 hT9 hR9 hT hR t0 t1 t2 z he2 he hB
 go_wp2_with fail
 refine bodyPost_ret (v:=FV c p i) (by simp[results,Tryz.results22,go_sem,r0,r1,r2]) rfl ⟨rfl,?_⟩
 exact ((hB9.setCell (p:=⟨w.heap.size,0,none⟩) (by simp) _).setCell (p:=⟨w.heap.size,1,none⟩) (by simp) _).setCell (p:=⟨w.heap.size,2,none⟩) (by simp) _
theorem icheckcode_any (a:Option Addr) (len cap:Nat) (xs:List FC) (w:World) (H0:CodeAt w a xs) (hl:xs.length=len) (hlay:LayAt w) (he:ErrAt w) :
  Calls Tryz.prog 8 #[.agg #[.slice a len cap]] w fun e w'=>(∃ r:F3,CkR (xs.map FC.d) r∧e=.returned (FV r.1 r.2.1 r.2.2))∧Below w.heap.size w w':=by
 have hy:=bw2 w (CO (.slice a len cap)) (FO 0 0 0)
 go_enter Tryz.func8,Tryz.ntmps8
 go_wp2_with fail
 refine (verify_any a len cap xs _ (H0.later hy) hl (hlay.later hy)).mono ?_
 rintro e w1 ⟨hV,hx⟩
 have B1:=qBz hx (qNz (k:=w.heap.size+1) (by simp) (FO 0 0 0))
 have hB:=hy.trans (hx.mono hy.size)
 clear hx
 rcases hV.split with ⟨⟨rc,rp,ri⟩,hck,_,rfl⟩|⟨hck,gA,rfl,_⟩
 ·have HCK:Hid (CkR (xs.map FC.d) (rc,rp,ri)):=hck
  clear hV hck
  go_wp2_with fail
  refine (faultof_some rc rp ri _ (he.later hB)).mono ?_
  rintro e w2 ⟨rfl,hx⟩
  have B2:=qBz hx B1
  have r0:w2.cell? ⟨w.heap.size+1,0,none⟩=some (.int .i64 0):=by rw[qAz B2];rfl
  have r1:w2.cell? ⟨w.heap.size+1,1,none⟩=some (.int .i64 0):=by rw[qAz B2];rfl
  have r2:w2.cell? ⟨w.heap.size+1,2,none⟩=some (.int .i64 0):=by rw[qAz B2];rfl
  have z:=qGz B2
  have hz:=hB.trans (hx.mono hB.size)
  clear hx B1 B2 hB H0 hlay he hy
  go_wp2_with fail
  refine bodyPost_ret (v:=FV rc rp ri) (by simp[results,Tryz.results8,go_sem,r0,r1,r2]) rfl ⟨⟨(rc,rp,ri),HCK.out,rfl⟩,?_⟩
  exact ((hz.setCell (p:=⟨w.heap.size+1,0,none⟩) (by simp) _).setCell (p:=⟨w.heap.size+1,1,none⟩) (by simp) _).setCell (p:=⟨w.heap.size+1,2,none⟩) (by simp) _
 ·have HCK:Hid (CkR (xs.map FC.d) (0,0,0)):=hck
  clear hV hck
  go_wp2_with fail
  refine (faultof_none _).mono ?_
  rintro e w2 ⟨rfl,hx⟩
  have B2:=qBz hx B1
  have r0:w2.cell? ⟨w.heap.size+1,0,none⟩=some (.int .i64 0):=by rw[qAz B2];rfl
  have r1:w2.cell? ⟨w.heap.size+1,1,none⟩=some (.int .i64 0):=by rw[qAz B2];rfl
  have r2:w2.cell? ⟨w.heap.size+1,2,none⟩=some (.int .i64 0):=by rw[qAz B2];rfl
  have z:=qGz B2
  have hz:=hB.trans (hx.mono hB.size)
  clear hx B1 B2 hB H0 hlay he hy
  go_wp2_with fail
  refine bodyPost_ret (v:=FV 0 0 0) (by simp[results,Tryz.results8,go_sem,r0,r1,r2]) rfl ⟨⟨(0,0,0),HCK.out,rfl⟩,?_⟩
  exact ((hz.setCell (p:=⟨w.heap.size+1,0,none⟩) (by simp) _).setCell (p:=⟨w.heap.size+1,1,none⟩) (by simp) _).setCell (p:=⟨w.heap.size+1,2,none⟩) (by simp) _
end Go.Proofs.YtfejmalmnjmanaaGreatDoor
namespace Go.Proofs.YtfejmalmnjmanaaGreatDoor.lawCheckCode
open Go.ChangeShapes Go.WideShapes Go.ChangeAt Go.RowKit
attribute [local go_sem] run_store_float
theorem szL_mem:∀ {xs:List FC}{x:FC},x∈xs→szF x.d≤szL xs
 | y::ys,x,h=>by
  have hc:szL (y::ys)=szF y.d+szL ys:=by simp[szL]
  rcases List.mem_cons.1 h with rfl|h
  ·omega
  ·have:=szL_mem h;omega
theorem szL_ins:∀ xs:List FC,(xs.map fun x=>x.d.ins.length).sum≤szL xs
 | []=>by simp[szL]
 | y::ys=>by
  have hc:szL (y::ys)=szF y.d+szL ys:=by simp[szL]
  have:=szL_ins ys
  rw[List.map_cons,List.sum_cons,hc]
  have:y.d.ins.length≤szF y.d:=by unfold szF;omega
  omega
theorem ok_of {f:FD} (h:f.raw) (hs:szF f≤1048576):f.ok:=by
 unfold szF at hs
 exact ⟨h.name,by omega,by omega,by omega,by omega,h.c,h.n⟩
theorem code_raw {w:World}{a:Option Addr}{xs:List FC} (hp:SlA w 9 FC.cells a xs) (hx:∀ x∈xs,x.lie w∧x.d.raw) (hs:xs.length+szL xs≤1048576):CodeAt w a xs :=
 ⟨hp,fun x h=>(hx x h).1,fun x h=>ok_of (hx x h).2 (by have:=szL_mem h;omega),by omega,by have:=szL_ins xs;omega⟩
theorem walk (a:Option Addr) (cap:Nat) (xs:List FC) (w:World) (hp:SlA w 9 FC.cells a xs) (hxs:∀ x∈xs,x.lie w∧x.d.raw) (hlm:xs.length≤maxLen) (hlay:LayAt w) (herr:ErrAt w) :
  Calls Tryz.prog 3 #[.agg #[.slice a xs.length cap]] w fun e w'=>e=.returned (.bool true)∧Below w.heap.size w w':=by
 have HP:Hid (SlA w 9 FC.cells a xs):=hp
 have HX:Hid (∀ x∈xs,x.lie w∧x.d.raw):=hxs
 have HLY:Hid (LayAt w):=hlay
 have HER:Hid (ErrAt w):=herr
 clear hp hxs hlay herr
 go_enter Tryz.func3,Tryz.ntmps3
 go_wp2_with fail
 refine (szc_any a xs.length cap xs 1048576 _ rfl (HP.out.later (bw1 _ _)) (fun x hx=>(HX.out x hx).1.later (bw1 _ _)) (fun x hx=>(HX.out x hx).2) hlm (by omega) (by omega)).mono ?_
 rintro e w1 ⟨⟨r,rfl,hr⟩,hx⟩
 have B0:Hid (w1.heap[w.heap.size]?=some (.cells #[.slice a xs.length cap] 24)):=qBz hx (qKz _ _)
 have hb:Below w.heap.size w w1:=(bw1 _ _).trans (hx.mono (by simp))
 clear hx
 rcases hr with rfl|⟨hr0,hr1⟩
 ·go_wp2_with fail
  go_ret
  exact ⟨rfl,hb⟩
 have H:Hid (CodeAt w a xs):=code_raw HP.out HX.out (by omega)
 clear hr1
 obtain ⟨len,hlen⟩:∃ len,len=xs.length:=⟨_,rfl⟩
 have HL:Hid (xs.length=len):=hlen.symm
 rw[←hlen] at B0 ⊢
 clear hlm hlen
 have a0:w1.cell? ⟨w.heap.size,0,none⟩=some (.slice a len cap):=by rw[qAz B0.out];rfl
 go_wp2_with fail
 refine (toc_any a len cap xs _ (H.out.later hb) HL.out).mono ?_
 rintro e w2 ⟨⟨g1,ys,rfl,hd1,hC1⟩,hx⟩
 have HC1:Hid (CodeAt w2 (some ⟨g1,0,none⟩) ys):=hC1
 have HD1:Hid (ys.map FC.d=xs.map FC.d):=hd1
 have HYL:Hid (ys.length=len):=by have h:=congrArg List.length hd1;simp only[List.length_map] at h;rw[HL.out] at h;exact h
 replace hb:=hb.trans (hx.mono hb.size)
 replace B0:Hid _:=qBz hx B0.out
 clear hx hd1 hC1 a0
 go_wp2_with fail
 refine (scheck_any (some ⟨g1,0,none⟩) len len ys _ HC1.out HYL.out).mono ?_
 rw[HD1.out]
 rintro e w3 ⟨⟨⟨c,p,i⟩,hck,rfl⟩,hx⟩
 have HT:Hid (CkR (xs.map FC.d) (c,p,i)):=hck
 clear hck
 replace hb:=hb.trans (hx.mono hb.size)
 replace B0:Hid _:=qBz hx B0.out
 clear hx HC1 HD1 HYL
 have hy:=bw1 w3 (FO c p i)
 have hb3:=hb.trans (hy.mono hb.size)
 have a0:(w3.alloc (FO c p i)).cell? ⟨w.heap.size,0,none⟩=some (.slice a len cap):=by rw[qAz (qBz hy B0.out)];rfl
 go_wp2_with fail
 refine (toc_any a len cap xs _ (H.out.later hb3) HL.out).mono ?_
 rintro e w4 ⟨⟨g2,zs,rfl,hd2,hC2⟩,hx⟩
 obtain ⟨gw,hgw⟩:∃ gw,gw=w3.heap.size:=⟨_,rfl⟩
 have BW:Hid (w4.heap[gw]?=some (FO c p i)):=qBz hx (qNz hgw.symm _)
 rw[←hgw]
 have HC2:Hid (CodeAt w4 (some ⟨g2,0,none⟩) zs):=hC2
 have HD2:Hid (zs.map FC.d=xs.map FC.d):=hd2
 have HZL:Hid (zs.length=len):=by have h:=congrArg List.length hd2;simp only[List.length_map] at h;rw[HL.out] at h;exact h
 replace hb:=hb3.trans (hx.mono hb3.size)
 replace B0:Hid _:=qBz hx (qBz hy B0.out)
 clear hx hd2 hC2 a0 hy hb3 hgw
 have hy:=bw1 w4 (CO (.slice (some ⟨g2,0,none⟩) len len))
 have hb4:=hb.trans (hy.mono hb.size)
 go_wp2_with fail
 refine (icheckcode_any (some ⟨g2,0,none⟩) len len zs _ (HC2.out.later hy) HZL.out (HLY.out.later hb4) (HER.out.later hb4)).mono ?_
 rw[HD2.out]
 rintro e w5 ⟨⟨r2,hck2,rfl⟩,hx⟩
 obtain rfl:r2=(c,p,i):=CkR.uniq hck2 HT.out
 clear hck2
 obtain ⟨gx,hgx⟩:∃ gx,gx=w4.heap.size:=⟨_,rfl⟩
 have BX:Hid (w5.heap[gx]?=some (CO (.slice (some ⟨g2,0,none⟩) len len))):=qBz hx (qNz hgx.symm _)
 rw[←hgx]
 replace BW:Hid _:=qBz hx (qBz hy BW.out)
 replace B0:Hid _:=qBz hx (qBz hy B0.out)
 replace HC2:Hid (CodeAt w5 (some ⟨g2,0,none⟩) zs):=(HC2.out.later hy).later hx
 replace hb:=hb4.trans (hx.mono hb4.size)
 clear hx hy hb4 hgx
 have hy:=bw1 w5 (FO c p i)
 have w0:(w5.alloc (FO c p i)).cell? ⟨gw,0,none⟩=some (.int .i64 c):=by rw[qAz (qBz hy BW.out)];rfl
 have w1':(w5.alloc (FO c p i)).cell? ⟨gw,1,none⟩=some (.int .i64 p):=by rw[qAz (qBz hy BW.out)];rfl
 have w2':(w5.alloc (FO c p i)).cell? ⟨gw,2,none⟩=some (.int .i64 i):=by rw[qAz (qBz hy BW.out)];rfl
 go_wp2_with fail
 refine (eqf_any c p i _).mono ?_
 rintro e w6 ⟨rfl,hx⟩
 replace BX:Hid _:=qBz hx (qBz hy BX.out)
 replace B0:Hid _:=qBz hx (qBz hy B0.out)
 replace HC2:Hid (CodeAt w6 (some ⟨g2,0,none⟩) zs):=(HC2.out.later hy).later hx
 have hb5:=hb.trans (hy.mono hb.size)
 replace hb:=hb5.trans (hx.mono hb5.size)
 have x0:w6.cell? ⟨gx,0,none⟩=some (.slice (some ⟨g2,0,none⟩) len len):=by rw[qAz BX.out];rfl
 have a0:w6.cell? ⟨w.heap.size,0,none⟩=some (.slice a len cap):=by rw[qAz B0.out];rfl
 clear hx hy hb5 w0 w1' w2' BW BX B0
 go_wp2_with fail
 go_region_with (first|(go_at_call 7;refine (toc_any a len cap xs _ (H.out.later (hb.trans ((Below.refl _ _).drew))) HL.out).mono ?_;rintro e w7 ⟨⟨g3,us,rfl,hd3,hC3⟩,hx⟩;replace hx:=und1 hx;have HC3:Hid (CodeAt w7 (some ⟨g3,0,none⟩) us):=hC3;have HD3:Hid (us.map FC.d=zs.map FC.d):=hd3.trans HD2.out.symm;replace HC2:Hid (CodeAt w7 (some ⟨g2,0,none⟩) zs):=HC2.out.later hx;replace x0:=cell_later hx x0;replace hb:=hb.trans (hx.mono hb.size);clear hx hC3 hd3)|(go_at_call 10;refine (eqc_any (some ⟨g2,0,none⟩) (some ⟨g3,0,none⟩) len len len zs us _ HZL.out HC2.out HC3.out HD3.out).mono ?_;rintro e w8 ⟨rfl,hx⟩;replace hb:=hb.trans (hx.mono hb.size);clear hx))
 all_goals
  go_wp2_with fail
  go_ret
  exact ⟨rfl,hb⟩
end Go.Proofs.YtfejmalmnjmanaaGreatDoor.lawCheckCode
namespace Go.Proofs.YtfejmalmnjmanaaGreatDoor.lawCheckCode
open Go.ChangeShapes Go.WideShapes Go.ChangeAt Go.RowKit
theorem et:Tryz.prog.globalNamed "errors.errorType"=some 0:=by kernel_rfl
theorem lt:Tryz.prog.globalNamed "loop.example/punch/impl.layouts"=some 2:=by kernel_rfl
theorem rt:(Tryz.prog.cutTypes.find? (·.1 == "internal/reflectlite.rtype")).map (·.2)=some 194:=by kernel_rfl
theorem oneRow:((List.range 280).filter fun t=>Tryz.prog.rowNamed t [101,114,114,111,114])=[48]:=by kernel_rfl
theorem tsize:Tryz.prog.types.size=280:=by kernel_rfl
theorem layType:(Tryz.prog.globals[(2:Nat)]?).map (·.type)=some 237:=by kernel_rfl
theorem layIs:(Rows.laid_loop_example_punch_impl_layouts:DataW Unit)=.agg (layT.map fun l=>.agg (l.map fun z=>.lit (.int .i64 z))):=rfl
theorem err_of {W:World} (h:handlesMet Tryz.prog [("errors.errorType",Rows.laid_errors_errorType)] W):ErrAt W:=by
 obtain ⟨name,u,ty,e1,e2,e3,e4,e5⟩:=h _ (List.mem_singleton.2 rfl)
 have en:name=[101,114,114,111,114]:=(Option.some.inj e1).symm
 subst en
 obtain rfl:=Option.some.inj (rt.symm.trans e2)
 have hm:ty∈(List.range 280).filter fun t=>Tryz.prog.rowNamed t [101,114,114,111,114]:=List.mem_filter.2 ⟨List.mem_range.2 (by rw[←tsize];exact e3),e4⟩
 rw[oneRow] at hm
 obtain rfl:=List.mem_singleton.1 hm
 have hh:typeHandle Tryz.prog 48=.pointer (some ⟨3,48,none⟩):=by kernel_rfl
 rw[hh] at e5
 unfold ErrAt
 simpa using World.var?_cell et e5 0
theorem lay_len:∀ l∈layT,l.length=4:=by decide
theorem lay_of {W:World} (h:laidMet Tryz.prog [("loop.example/punch/impl.layouts",Rows.laid_loop_example_punch_impl_layouts)] W):LayAt W:=by
 obtain ⟨ps,hv,_⟩:=h
 obtain ⟨g,t,cs,fuel,p,q,h1,h2,h3,h4,h5,h6⟩:=hv
 obtain rfl:=Option.some.inj (lt.symm.trans h1)
 obtain rfl:=Option.some.inj (layType.symm.trans h2)
 have hc:=fun j=>World.var?_cell lt h3 j
 obtain ⟨xs,m,_,hx,hl,hlen,he⟩:=DataW.trod_array Tryz.underlying237 h4
 have k4:Tryz.prog.cellsOf 236=4:=by kernel_rfl
 have k1:Tryz.prog.cellsOf 212=1:=by kernel_rfl
 have hC:Tryz.prog.cellsOf 237=172:=by kernel_rfl
 rw[k4] at he
 rw[hC] at hl
 have hd:layT.map (fun l=>(.agg (l.map fun z=>.lit (.int .i64 z)):DataW Unit))=xs.map (·.1):=by
  have:=congrArg Prod.fst hx
  rw[layIs] at this
  simpa using this
 intro i j hi hj
 obtain ⟨l,hli⟩:∃ l,layT[i]?=some l:=⟨layT[i]'hi,List.getElem?_eq_getElem _⟩
 obtain ⟨y,hy⟩:∃ y,xs[i]?=some y:=⟨xs[i]'(by omega),List.getElem?_eq_getElem _⟩
 have hyl:y.1=.agg (l.map fun z=>.lit (.int .i64 z)):=by
  have:=congrArg (fun a=>a[i]?) hd
  simp only[List.getElem?_map,hli,hy,Option.map_some,Option.some.injEq] at this
  exact this.symm
 have ht:=he i hi
 rw[hy] at ht
 obtain ⟨zs,n,_,hz,hzl,hzn,hf⟩:=DataW.trod_struct Tryz.underlying236 ht
 rw[k4] at hzl
 obtain ⟨z0,z1,z2,z3,hl4⟩:=list4 (lay_len l (List.mem_of_getElem? hli))
 obtain ⟨c0,c1,c2,c3,hcs⟩:=list4 hzl
 obtain ⟨y0,y1,y2,y3,rfl⟩:=list4 hzn
 have hz1:=congrArg Prod.fst hz
 rw[hyl,hl4] at hz1
 simp only[List.map_cons,List.map_nil,DataW.agg.injEq,List.cons.injEq,and_true] at hz1
 obtain ⟨q0,q1,q2,q3⟩:=hz1
 rw[hcs] at hf
 have t0:DataW.trod (fun _=>()) Tryz.prog W 0 (fun _=>true) false n 212 [c0]=some y0:=by simpa [k1] using hf 0 _ rfl
 have t1:DataW.trod (fun _=>()) Tryz.prog W 0 (fun _=>true) false n 212 [c1]=some y1:=by simpa [k1] using hf 1 _ rfl
 have t2:DataW.trod (fun _=>()) Tryz.prog W 0 (fun _=>true) false n 212 [c2]=some y2:=by simpa [k1] using hf 2 _ rfl
 have t3:DataW.trod (fun _=>()) Tryz.prog W 0 (fun _=>true) false n 212 [c3]=some y3:=by simpa [k1] using hf 3 _ rfl
 obtain ⟨v0,e0,x0,_⟩:=DataW.trod_int Tryz.underlying212 t0
 obtain ⟨v1,e1,x1,_⟩:=DataW.trod_int Tryz.underlying212 t1
 obtain ⟨v2,e2,x2,_⟩:=DataW.trod_int Tryz.underlying212 t2
 obtain ⟨v3,e3,x3,_⟩:=DataW.trod_int Tryz.underlying212 t3
 rw[x0] at q0
 rw[x1] at q1
 rw[x2] at q2
 rw[x3] at q3
 simp only[DataW.lit.injEq,Lit.int.injEq,true_and] at q0 q1 q2 q3
 subst q0 q1 q2 q3
 simp only[List.cons.injEq,and_true] at e0 e1 e2 e3
 subst e0 e1 e2 e3
 have hcell:∀ j v,([.int .i64 z0,.int .i64 z1,.int .i64 z2,.int .i64 z3]:List Value)[j]?=some v→W.cell? ⟨2,i*4+j,none⟩=some v:=by
  intro j v hv
  rw[hc,← Array.getElem?_toList]
  have hj4:j<4:=by have:=(List.getElem?_eq_some_iff.1 hv).1;simpa using this
  have:=congrArg (fun a=>a[j]?) hcs
  simp only[List.getElem?_take,List.getElem?_drop,hj4,if_true] at this
  rw[this];exact hv
 have hg:layT.getD i []=l:=by rw[List.getD_eq_getElem?_getD,hli];rfl
 unfold li
 rw[hg,hl4]
 match j,hj with
 | 0,_=>exact hcell 0 _ rfl
 | 1,_=>exact hcell 1 _ rfl
 | 2,_=>exact hcell 2 _ rfl
 | 3,_=>exact hcell 3 _ rfl
theorem own:ownKnob Tryz.prog.godebug=none:=by kernel_rfl
theorem laidOut:laidOutB Tryz.prog=true:=by kernel_rfl
theorem rowed:varsRowed Tryz.prog Rows.fnExactCheckCodeSpec.vars=true:=by kernel_rfl
theorem met_of {W:World} (h:laidMetH Tryz.prog Rows.fnExactCheckCodeRow.laid W):LayAt W∧ErrAt W:=by
 have h':laidMet Tryz.prog [("loop.example/punch/impl.layouts",Rows.laid_loop_example_punch_impl_layouts)] W∧handlesMet Tryz.prog [("errors.errorType",Rows.laid_errors_errorType)] W:=h
 exact ⟨lay_of h'.1,err_of h'.2⟩
def layObj:Obj→Obj
 | .cells _ t frozen=>.cells (layT.flatMap fun l=>l.map fun z=>Value.int .i64 z).toArray t frozen
 | o=>o
def errObj:Obj→Obj
 | .cells _ t frozen=>.cells #[.iface 194 (.agg #[.pointer (some ⟨3,48,none⟩)])] t frozen
 | o=>o
def laidOf (w:World):World:={ w with heap:=(w.heap.modify 0 errObj).modify 2 layObj }
theorem laid_met (os:Os) (args:Array Value):laidMetH Tryz.prog Rows.fnExactCheckCodeRow.laid ((laidOf (World.holding Tryz.prog os ⟨#[],#[],[]⟩)).forCall (fun _ _=>0) ⟨#[],args,[]⟩).memory :=
 laidMetH_of_parts (laidMet_of_run' 8 (by kernel_rfl) (by kernel_rfl)) (by kernel_rfl)
set_option maxRecDepth 100000 in
theorem lifted (os:Os) (started:os.Started) (H:Type) (enc:TypeId × Value→H) :
  ReturnsInHanded {} Tryz.checked os 3 .any (fun w args=>(Rows.fnExactCheckCodeSpec.pre enc Tryz.prog Tryz.f3 [] false w args∧laidMetH Tryz.prog Rows.fnExactCheckCodeRow.laid w)∧sizedMet enc Tryz.prog Tryz.f3 (OpenSpec.ofChange Rows.fnExactCheckCodeSpec) false w args)
   (Rows.fnExactCheckCodeSpec.post enc Tryz.prog Tryz.f3 false true false false):=by
 refine returnsInHanded_of_change_and (C:=Tryz.checked) (X:=fun w _=>laidMetH Tryz.prog Rows.fnExactCheckCodeRow.laid w) (fun _ _ _ hh h=>h.of_heap hh) own started (by kernel_rfl) Tryz.func3
  (ChangeSpec.witness_at (enc:=enc) (C:=Tryz.checked) (os:=os) (X:=fun w _=>laidMetH Tryz.prog Rows.fnExactCheckCodeRow.laid w) false (laidOf (World.holding Tryz.prog os ⟨#[],#[],[]⟩)) #[.agg #[.slice none 0 0]] 8 rfl (by kernel_rfl) (by kernel_rfl) (by kernel_rfl) (by kernel_rfl) (by kernel_rfl) (laid_met os _)) ?_
 intro W base args ds gs before hval0 hW _ _ hL _
 have hval:∀ (j:Nat) t v,Tryz.f3.params[j]?=some t→args[j]?=some v→Value.okWide Tryz.prog W .any base t v:=hval0
 have hW':=hW
 obtain ⟨p,q,hA0,hV,rfl,hfz,hnd⟩:=hW
 have hA:DataW.TrodAll enc Tryz.prog W 0 (fun _=>true) true Tryz.f3.params.toList args.toList ds p:=hA0
 rw[Tryz.params3] at hA hval
 obtain ⟨v0,vs0,d0,ds0,p0,q0,hargs,rfl,rfl,h0,r0⟩:=trodAll_cons hA
 obtain ⟨rfl,rfl,rfl⟩:=trodAll_nil r0
 obtain rfl:args=#[v0]:=by cases args;simp_all
 have k0:=h0
 have lt0:∀ x∈p0,x.block<W.heap.size:=by obtain ⟨m,hm⟩:=k0;exact DataW.trod_lt m _ _ _ hm
 obtain ⟨a,cap,xs,rfl,hp,hxs,hlm⟩:=open_code (hval 0 24 v0 rfl rfl) h0
 obtain ⟨g1,rfl⟩:∃ g1,gs=[g1]:=by
  obtain ⟨_,_,_,_,_,_,hgs,_⟩:=trodVars_one hV
  exact ⟨_,hgs⟩
 obtain ⟨hlay,herr⟩:=met_of hL
 clear hA0 hval0 hval h0
 refine (walk a cap xs W hp hxs hlm hlay herr).mono fun e W' ⟨he,bel⟩=>?_
 subst he
 exact ⟨_,rfl,_,_,_,[],_,_,hW',trodAll_mk1 (shut_bool Tryz.underlying4 _),(trodAll_cons_mk (Below.trod laidOut (by kernel_rfl) (of_decide_eq_true (by kernel_rfl)) k0 bel lt0) trodAll_mk0),Below.trodVars laidOut bel rowed hV,bel.frame _,fun h=>by cases h⟩
theorem over:Rows.fnExactCheckCodeRow.holds Tryz.pinned (OpenSpec.ofChange Rows.fnExactCheckCodeSpec) :=
 OpenClaim.holds_of_wide 3 Tryz.f3 rfl rfl rfl rfl rfl rfl rfl ⟨rfl,rfl,rfl,rfl,rfl⟩ rfl rfl rfl rfl rfl (by kernel_rfl) Tryz.func3 (by kernel_rfl)
  (of_decide_eq_true (by kernel_rfl)) (by unfold Func.isWrapper;first|(rw[if_pos (by decide +kernel)];kernel_rfl)|(rw[if_neg (by decide +kernel)];exact ⟨rfl,rfl⟩))
  (fun os started H enc _=>lifted os started H enc)
end Go.Proofs.YtfejmalmnjmanaaGreatDoor.lawCheckCode
namespace Go.Proofs.YtfejmalmnjmanaaGreatDoor
open Go
theorem checkCode_holds : Rows.FnExactCheckCodeCardSaid :=
 Claim7.holds_tied_plain_at .later [] [.handle,.data] true _ true
  lawCheckCode.over (fun _ h=>by cases h) (by kernel_rfl) (fun _ h=>by cases h) fnExactCheckCode_row_tie rfl ⟨rfl,rfl⟩ (by kernel_rfl) rfl
  (fun f fn hf hfn=>by
   obtain rfl:f=3:=Option.some.inj ((show Tryz.prog.funcNamed "loop.example/punch/laws.FnExactCheckCode"=some 3 by kernel_rfl).symm.trans hf) |>.symm
   obtain rfl:fn=Tryz.f3:=(Option.some.inj (Tryz.func3.symm.trans hfn)).symm
   exact ⟨by kernel_rfl,fun j t ht=>by
    rw[Tryz.params3] at ht
    have hm:t∈[(24:Nat)]:=by simpa using Array.mem_of_getElem? ht
    have hall:([(24:Nat)].all fun u=>!Tryz.prog.wantsStandIn u)=true:=by kernel_rfl
    exact (show Tryz.prog.wantsStandIn t=false by simpa using List.all_eq_true.1 hall t hm)⟩)
  (by kernel_rfl)
end Go.Proofs.YtfejmalmnjmanaaGreatDoor
