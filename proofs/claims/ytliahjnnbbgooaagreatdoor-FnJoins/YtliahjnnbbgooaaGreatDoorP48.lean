import Derived.Test.YtliahjnnbbgooaaGreatDoorRows
import Derived.JoinedOf
import Derived.KernelRfl
set_option linter.unusedVariables false
set_option linter.unusedSimpArgs false
set_option maxRecDepth 20000
set_option maxHeartbeats 8000000
namespace Go.Proofs.YtliahjnnbbgooaaGreatDoor.facJoins
def kindsAs (P:Program) (fn:Func) (c:OpenClaim):Bool:=((c.kinds == (if c.domain.isEmpty then [] else fn.params.toList.map fun t=>match P.underlying t with | some (.int k)=>some k | _=>none)))
theorem joined_eq (P:Program) (f:FuncId) (fn:Func) (s:ChangeSpec) (c:OpenClaim):joinedFacts P f fn s c=((c.wf (OpenSpec.ofChange s)) && (laidOutB P) && (mapsRowed P) && (fn.params.all (P.readableRec ·)) && (namedTie P c.named s.vars) && ((c.stops == [])) && ((P.stops == [])) && ((c.knobs == [])) && ((P.stopKnobs == [])) && ((c.inPlace == P.inPlace f)) && ((c.unfollowed == P.unfollowed f)) && ((c.recurses == P.recurses f)) && ((c.named == P.varsNamed f)) && ((c.maps == (fn.params.toList++s.plain.varTypes P).any (P.mapsRec ·))) && ((c.ifaces == (fn.params.toList++s.plain.varTypes P).any (P.ifacesRec ·))) && ((c.mapsOut == P.mapsAmong fn.resultTypes.toList)) && ((c.loops == (fn.params.toList++s.plain.varTypes P).any (P.loopsFrom ·))) && ((c.wideKeys == (fn.params.toList++s.plain.varTypes P++fn.resultTypes.toList).any (P.wideKeysFrom ·))) && (s.vars.all (P.varReadable ·)) && (fn.resultTypes.all (fun t=>P.readableRec t && decide (t<P.types.size))) && ((c.ifacesOut == fn.resultTypes.toList.any (P.ifacesRec ·))) && ((c.loopsOut == fn.resultTypes.toList.any (P.loopsFrom ·))) && ((c.plainKeys == P.plainKeys)) && (c.shortTexts.isNone) && (P.stopsHeard) && (P.mayEnter) && ((c.lifted == P.liftsFinal)) && ((P.make == some c.make)) && kindsAs P fn c && ((c.pinned == c.pinnedBy)) && ((c.veiled == (fn.params.toList++s.plain.varTypes P++fn.resultTypes.toList).any (P.veiledRec ·))) && (c.veiledFits P fn.params.toList (fn.params.toList++s.plain.varTypes P++fn.resultTypes.toList))):=rfl
noncomputable abbrev P:Program:=Tryz.prog
noncomputable abbrev fn:Func:=Tryz.f3
noncomputable abbrev s:ChangeSpec:=Rows.fnJoinsSpec
noncomputable abbrev c:OpenClaim:=Rows.fnJoinsRow
theorem k01:(c.wf (OpenSpec.ofChange s))=true:=by kernel_rfl
theorem k02:(laidOutB P)=true:=by kernel_rfl
theorem k03:(mapsRowed P)=true:=by kernel_rfl
theorem k04:(fn.params.all (P.readableRec ·))=true:=by kernel_rfl
theorem k05:(namedTie P c.named s.vars)=true:=by kernel_rfl
theorem k06:((c.stops == []))=true:=by kernel_rfl
theorem k07:((P.stops == []))=true:=by kernel_rfl
theorem k08:((c.knobs == []))=true:=by kernel_rfl
theorem k09:((P.stopKnobs == []))=true:=by kernel_rfl
theorem k10:((c.inPlace == P.inPlace 3))=true:=by kernel_rfl
theorem k11:((c.unfollowed == P.unfollowed 3))=true:=by kernel_rfl
theorem k12:((c.recurses == P.recurses 3))=true:=by kernel_rfl
theorem k13:((c.named == P.varsNamed 3))=true:=by kernel_rfl
theorem k14:((c.maps == (fn.params.toList++s.plain.varTypes P).any (P.mapsRec ·)))=true:=by kernel_rfl
theorem k15:((c.ifaces == (fn.params.toList++s.plain.varTypes P).any (P.ifacesRec ·)))=true:=by kernel_rfl
theorem k16:((c.mapsOut == P.mapsAmong fn.resultTypes.toList))=true:=by kernel_rfl
theorem k17:((c.loops == (fn.params.toList++s.plain.varTypes P).any (P.loopsFrom ·)))=true:=by kernel_rfl
theorem k18:((c.wideKeys == (fn.params.toList++s.plain.varTypes P++fn.resultTypes.toList).any (P.wideKeysFrom ·)))=true:=by kernel_rfl
theorem k19:(s.vars.all (P.varReadable ·))=true:=by kernel_rfl
theorem k20:(fn.resultTypes.all (fun t=>P.readableRec t && decide (t<P.types.size)))=true:=by kernel_rfl
theorem k21:((c.ifacesOut == fn.resultTypes.toList.any (P.ifacesRec ·)))=true:=by kernel_rfl
theorem k22:((c.loopsOut == fn.resultTypes.toList.any (P.loopsFrom ·)))=true:=by kernel_rfl
theorem k23:((c.plainKeys == P.plainKeys))=true:=by kernel_rfl
theorem k24:(c.shortTexts.isNone)=true:=by kernel_rfl
theorem k25:(P.stopsHeard)=true:=by kernel_rfl
theorem k26:(P.mayEnter)=true:=by kernel_rfl
theorem k27:((c.lifted == P.liftsFinal))=true:=by kernel_rfl
theorem k28:((P.make == some c.make))=true:=by kernel_rfl
theorem k29:kindsAs P fn c=true:=by kernel_rfl
theorem k30:((c.pinned == c.pinnedBy))=true:=by kernel_rfl
theorem k31:((c.veiled == (fn.params.toList++s.plain.varTypes P++fn.resultTypes.toList).any (P.veiledRec ·)))=true:=by kernel_rfl
theorem k32:(c.veiledFits P fn.params.toList (fn.params.toList++s.plain.varTypes P++fn.resultTypes.toList))=true:=by kernel_rfl
theorem and2 {a b:Bool} (ha:a=true) (hb:b=true):(a && b)=true:=by rw[ha,hb];rfl
theorem closed:joinedFacts Tryz.prog 3 Tryz.f3 Rows.fnJoinsSpec Rows.fnJoinsRow=true :=
 (joined_eq P 3 fn s c).trans (and2 (and2 (and2 (and2 (and2 (and2 (and2 (and2 (and2 (and2 (and2 (and2 (and2 (and2 (and2 (and2 (and2 (and2 (and2 (and2 (and2 (and2 (and2 (and2 (and2 (and2 (and2 (and2 (and2 (and2 (and2 k01 k02) k03) k04) k05) k06) k07) k08) k09) k10) k11) k12) k13) k14) k15) k16) k17) k18) k19) k20) k21) k22) k23) k24) k25) k26) k27) k28) k29) k30) k31) k32)
end Go.Proofs.YtliahjnnbbgooaaGreatDoor.facJoins
