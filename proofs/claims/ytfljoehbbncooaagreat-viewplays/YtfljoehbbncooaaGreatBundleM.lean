/- Own texts, one behind the other (part 13). -/
import Derived.Test.YtfljoehbbncooaaGreatBundleL
import Derived.Test.YtfljoehbbncooaaGreatRows
import Derived.ProofKit
import Derived.JoinedOf
set_option maxRecDepth 100000
set_option maxHeartbeats 8000000
namespace Go.Proofs.YtfljoehbbncooaaGreat
open Go.ChangeShapes Go.WideShapes Go.ChangeAt Go.RowKit
theorem jH{a b:Bool}(ha:a=true)(hb:b=true):(a&&b)=true:=by rw[ha,hb];rfl
theorem aSP:Rows.viewPlaysRow.wf (OpenSpec.ofChange Rows.viewPlaysSpec)=true:=by kernel_rfl
theorem aSQ:laidOutB Tryz.prog=true:=by kernel_rfl
theorem aSR:mapsRowed Tryz.prog=true:=by kernel_rfl
theorem aSS:Tryz.f4.params.all (Tryz.prog.readableRec ·)=true:=by kernel_rfl
theorem aST:namedTie Tryz.prog Rows.viewPlaysRow.named Rows.viewPlaysSpec.vars=true:=by kernel_rfl
theorem aSU:(Rows.viewPlaysRow.stops==[])=true:=by kernel_rfl
theorem aSV:(Tryz.prog.stops==[])=true:=by kernel_rfl
theorem aSW:(Rows.viewPlaysRow.knobs==[])=true:=by kernel_rfl
theorem aSX:(Tryz.prog.stopKnobs==[])=true:=by kernel_rfl
theorem aNU:(Rows.viewPlaysRow.inPlace==Tryz.prog.inPlace 4)=true:=by kernel_rfl
theorem aNV:(Rows.viewPlaysRow.unfollowed==Tryz.prog.unfollowed 4)=true:=by kernel_rfl
theorem aNW:(Rows.viewPlaysRow.recurses==Tryz.prog.recurses 4)=true:=by kernel_rfl
theorem aNX:(Rows.viewPlaysRow.named==Tryz.prog.varsNamed 4)=true:=by kernel_rfl
theorem aNY:(Rows.viewPlaysRow.maps==(Tryz.f4.params.toList++Rows.viewPlaysSpec.plain.varTypes Tryz.prog).any (Tryz.prog.mapsRec ·))=true:=by kernel_rfl
theorem aNZ:(Rows.viewPlaysRow.ifaces==(Tryz.f4.params.toList++Rows.viewPlaysSpec.plain.varTypes Tryz.prog).any (Tryz.prog.ifacesRec ·))=true:=by kernel_rfl
theorem aN0:(Rows.viewPlaysRow.mapsOut==Tryz.prog.mapsAmong Tryz.f4.resultTypes.toList)=true:=by kernel_rfl
theorem aN1:(Rows.viewPlaysRow.loops==(Tryz.f4.params.toList++Rows.viewPlaysSpec.plain.varTypes Tryz.prog).any (Tryz.prog.loopsFrom ·))=true:=by kernel_rfl
theorem aN2:(Rows.viewPlaysRow.wideKeys==(Tryz.f4.params.toList++Rows.viewPlaysSpec.plain.varTypes Tryz.prog++Tryz.f4.resultTypes.toList).any (Tryz.prog.wideKeysFrom ·))=true:=by kernel_rfl
theorem aN3:Rows.viewPlaysSpec.vars.all (Tryz.prog.varReadable ·)=true:=by kernel_rfl
theorem aN4:Tryz.f4.resultTypes.all (fun t=>Tryz.prog.readableRec t&&decide (t<Tryz.prog.types.size))=true:=by kernel_rfl
theorem aN5:(Rows.viewPlaysRow.ifacesOut==Tryz.f4.resultTypes.toList.any (Tryz.prog.ifacesRec ·))=true:=by kernel_rfl
theorem aN6:(Rows.viewPlaysRow.loopsOut==Tryz.f4.resultTypes.toList.any (Tryz.prog.loopsFrom ·))=true:=by kernel_rfl
theorem aN7:(Rows.viewPlaysRow.plainKeys==Tryz.prog.plainKeys)=true:=by kernel_rfl
theorem aN8:Rows.viewPlaysRow.shortTexts.isNone=true:=by kernel_rfl
theorem aN9:Tryz.prog.stopsHeard=true:=by kernel_rfl
theorem aOA:Tryz.prog.mayEnter=true:=by kernel_rfl
theorem aOB:(Rows.viewPlaysRow.lifted==Tryz.prog.liftsFinal)=true:=by kernel_rfl
theorem aOC:(Tryz.prog.make==some Rows.viewPlaysRow.make)=true:=by kernel_rfl
theorem aOD:(Rows.viewPlaysRow.kinds==(if Rows.viewPlaysRow.domain.isEmpty then [] else Tryz.f4.params.toList.map fun t=>match Tryz.prog.underlying t with |some (.int k)=>some k|_=>none))=true:=by kernel_rfl
theorem aOE:(Rows.viewPlaysRow.pinned==Rows.viewPlaysRow.pinnedBy)=true:=by kernel_rfl
theorem aOF:(Rows.viewPlaysRow.veiled==(Tryz.f4.params.toList++Rows.viewPlaysSpec.plain.varTypes Tryz.prog++Tryz.f4.resultTypes.toList).any (Tryz.prog.veiledRec ·))=true:=by kernel_rfl
theorem aOG:Rows.viewPlaysRow.veiledFits Tryz.prog Tryz.f4.params.toList (Tryz.f4.params.toList++Rows.viewPlaysSpec.plain.varTypes Tryz.prog++Tryz.f4.resultTypes.toList)=true:=by kernel_rfl
theorem aC3:joinedFacts Tryz.prog 4 Tryz.f4 (Rows.viewPlaysSpec) Rows.viewPlaysRow=true:=by unfold joinedFacts;exact jH (jH (jH (jH (jH (jH (jH (jH (jH (jH (jH (jH (jH (jH (jH (jH (jH (jH (jH (jH (jH (jH (jH (jH (jH (jH (jH (jH (jH (jH (jH aSP aSQ) aSR) aSS) aST) aSU) aSV) aSW) aSX) aNU) aNV) aNW) aNX) aNY) aNZ) aN0) aN1) aN2) aN3) aN4) aN5) aN6) aN7) aN8) aN9) aOA) aOB) aOC) aOD) aOE) aOF) aOG
end Go.Proofs.YtfljoehbbncooaaGreat
