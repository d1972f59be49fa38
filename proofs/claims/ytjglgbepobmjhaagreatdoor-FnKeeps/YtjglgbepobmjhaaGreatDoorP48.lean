import Derived.Test.YtjglgbepobmjhaaGreatDoorRows
import Derived.JoinedOf
import Derived.KernelRfl
set_option linter.unusedVariables false
set_option linter.unusedSimpArgs false
set_option maxRecDepth 20000
set_option maxHeartbeats 8000000
namespace Go.Proofs.YtjglgbepobmjhaaGreatDoor.facKeeps
def kindsAs (P:Program) (fn:Func) (c:OpenClaim):Bool:=((c.kinds == (if c.domain.isEmpty then [] else fn.params.toList.map fun t=>match P.underlying t with | some (.int k)=>some k | _=>none)))
theorem joined_eq (P:Program) (f:FuncId) (fn:Func) (s:ChangeSpec) (c:OpenClaim):joinedFacts P f fn s c=((c.wf (OpenSpec.ofChange s)) && (laidOutB P) && (mapsRowed P) && (fn.params.all (P.readableRec ·)) && (namedTie P c.named s.vars) && ((c.stops == [])) && ((P.stops == [])) && ((c.knobs == [])) && ((P.stopKnobs == [])) && ((c.inPlace == P.inPlace f)) && ((c.unfollowed == P.unfollowed f)) && ((c.recurses == P.recurses f)) && ((c.named == P.varsNamed f)) && ((c.maps == (fn.params.toList++s.plain.varTypes P).any (P.mapsRec ·))) && ((c.ifaces == (fn.params.toList++s.plain.varTypes P).any (P.ifacesRec ·))) && ((c.mapsOut == P.mapsAmong fn.resultTypes.toList)) && ((c.loops == (fn.params.toList++s.plain.varTypes P).any (P.loopsFrom ·))) && ((c.wideKeys == (fn.params.toList++s.plain.varTypes P++fn.resultTypes.toList).any (P.wideKeysFrom ·))) && (s.vars.all (P.varReadable ·)) && (fn.resultTypes.all (fun t=>P.readableRec t && decide (t<P.types.size))) && ((c.ifacesOut == fn.resultTypes.toList.any (P.ifacesRec ·))) && ((c.loopsOut == fn.resultTypes.toList.any (P.loopsFrom ·))) && ((c.plainKeys == P.plainKeys)) && (c.shortTexts.isNone) && (P.stopsHeard) && (P.mayEnter) && ((c.lifted == P.liftsFinal)) && ((P.make == some c.make)) && kindsAs P fn c && ((c.pinned == c.pinnedBy)) && ((c.veiled == (fn.params.toList++s.plain.varTypes P++fn.resultTypes.toList).any (P.veiledRec ·))) && (c.veiledFits P fn.params.toList (fn.params.toList++s.plain.varTypes P++fn.resultTypes.toList))):=rfl
theorem k01:(Rows.fnKeepsRow.wf (OpenSpec.ofChange Rows.fnKeepsSpec))=true:=by kernel_rfl
theorem k02:(laidOutB Tryz.prog)=true:=by kernel_rfl
theorem k03:(mapsRowed Tryz.prog)=true:=by kernel_rfl
theorem k04:(Tryz.f3.params.all (Tryz.prog.readableRec ·))=true:=by kernel_rfl
theorem k05:(namedTie Tryz.prog Rows.fnKeepsRow.named Rows.fnKeepsSpec.vars)=true:=by kernel_rfl
theorem k06:((Rows.fnKeepsRow.stops == []))=true:=by kernel_rfl
theorem k07:((Tryz.prog.stops == []))=true:=by kernel_rfl
theorem k08:((Rows.fnKeepsRow.knobs == []))=true:=by kernel_rfl
theorem k09:((Tryz.prog.stopKnobs == []))=true:=by kernel_rfl
theorem k10:((Rows.fnKeepsRow.inPlace == Tryz.prog.inPlace 3))=true:=by kernel_rfl
theorem k11:((Rows.fnKeepsRow.unfollowed == Tryz.prog.unfollowed 3))=true:=by kernel_rfl
theorem k12:((Rows.fnKeepsRow.recurses == Tryz.prog.recurses 3))=true:=by kernel_rfl
theorem k13:((Rows.fnKeepsRow.named == Tryz.prog.varsNamed 3))=true:=by kernel_rfl
theorem k14:((Rows.fnKeepsRow.maps == (Tryz.f3.params.toList++Rows.fnKeepsSpec.plain.varTypes Tryz.prog).any (Tryz.prog.mapsRec ·)))=true:=by kernel_rfl
theorem k15:((Rows.fnKeepsRow.ifaces == (Tryz.f3.params.toList++Rows.fnKeepsSpec.plain.varTypes Tryz.prog).any (Tryz.prog.ifacesRec ·)))=true:=by kernel_rfl
theorem k16:((Rows.fnKeepsRow.mapsOut == Tryz.prog.mapsAmong Tryz.f3.resultTypes.toList))=true:=by kernel_rfl
theorem k17:((Rows.fnKeepsRow.loops == (Tryz.f3.params.toList++Rows.fnKeepsSpec.plain.varTypes Tryz.prog).any (Tryz.prog.loopsFrom ·)))=true:=by kernel_rfl
theorem k18:((Rows.fnKeepsRow.wideKeys == (Tryz.f3.params.toList++Rows.fnKeepsSpec.plain.varTypes Tryz.prog++Tryz.f3.resultTypes.toList).any (Tryz.prog.wideKeysFrom ·)))=true:=by kernel_rfl
theorem k19:(Rows.fnKeepsSpec.vars.all (Tryz.prog.varReadable ·))=true:=by kernel_rfl
theorem k20:(Tryz.f3.resultTypes.all (fun t=>Tryz.prog.readableRec t && decide (t<Tryz.prog.types.size)))=true:=by kernel_rfl
theorem k21:((Rows.fnKeepsRow.ifacesOut == Tryz.f3.resultTypes.toList.any (Tryz.prog.ifacesRec ·)))=true:=by kernel_rfl
theorem k22:((Rows.fnKeepsRow.loopsOut == Tryz.f3.resultTypes.toList.any (Tryz.prog.loopsFrom ·)))=true:=by kernel_rfl
theorem k23:((Rows.fnKeepsRow.plainKeys == Tryz.prog.plainKeys))=true:=by kernel_rfl
theorem k24:(Rows.fnKeepsRow.shortTexts.isNone)=true:=by kernel_rfl
theorem k25:(Tryz.prog.stopsHeard)=true:=by kernel_rfl
theorem k26:(Tryz.prog.mayEnter)=true:=by kernel_rfl
theorem k27:((Rows.fnKeepsRow.lifted == Tryz.prog.liftsFinal))=true:=by kernel_rfl
theorem k28:((Tryz.prog.make == some Rows.fnKeepsRow.make))=true:=by kernel_rfl
theorem k29:kindsAs Tryz.prog Tryz.f3 Rows.fnKeepsRow=true:=by kernel_rfl
theorem k30:((Rows.fnKeepsRow.pinned == Rows.fnKeepsRow.pinnedBy))=true:=by kernel_rfl
theorem k31:((Rows.fnKeepsRow.veiled == (Tryz.f3.params.toList++Rows.fnKeepsSpec.plain.varTypes Tryz.prog++Tryz.f3.resultTypes.toList).any (Tryz.prog.veiledRec ·)))=true:=by kernel_rfl
theorem k32:(Rows.fnKeepsRow.veiledFits Tryz.prog Tryz.f3.params.toList (Tryz.f3.params.toList++Rows.fnKeepsSpec.plain.varTypes Tryz.prog++Tryz.f3.resultTypes.toList))=true:=by kernel_rfl
theorem and2 {a b:Bool} (ha:a=true) (hb:b=true):(a && b)=true:=by rw[ha,hb];rfl
theorem closed:joinedFacts Tryz.prog 3 Tryz.f3 Rows.fnKeepsSpec Rows.fnKeepsRow=true :=
 (joined_eq Tryz.prog 3 Tryz.f3 Rows.fnKeepsSpec Rows.fnKeepsRow).trans (and2 (and2 (and2 (and2 (and2 (and2 (and2 (and2 (and2 (and2 (and2 (and2 (and2 (and2 (and2 (and2 (and2 (and2 (and2 (and2 (and2 (and2 (and2 (and2 (and2 (and2 (and2 (and2 (and2 (and2 (and2 k01 k02) k03) k04) k05) k06) k07) k08) k09) k10) k11) k12) k13) k14) k15) k16) k17) k18) k19) k20) k21) k22) k23) k24) k25) k26) k27) k28) k29) k30) k31) k32)
end Go.Proofs.YtjglgbepobmjhaaGreatDoor.facKeeps
