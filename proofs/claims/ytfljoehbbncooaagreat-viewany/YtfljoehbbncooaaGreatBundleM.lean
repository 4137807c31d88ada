/- Own texts, one behind the other (part 13). -/
import Derived.Test.YtfljoehbbncooaaGreatBundleL
import Derived.Test.YtfljoehbbncooaaGreatRows
import Derived.ProofKit
import Derived.JoinedOf
set_option maxRecDepth 100000
set_option maxHeartbeats 8000000
namespace Go.Proofs.YtfljoehbbncooaaGreat
open Go.ChangeShapes Go.WideShapes Go.ChangeAt Go.RowKit
theorem lO{a b:Bool}(ha:a=true)(hb:b=true):(a&&b)=true:=by rw[ha,hb];rfl
theorem bCI:Rows.viewAnyRow.wf (OpenSpec.ofChange Rows.viewAnySpec)=true:=by kernel_rfl
theorem bCJ:laidOutB Tryz.prog=true:=by kernel_rfl
theorem bCK:mapsRowed Tryz.prog=true:=by kernel_rfl
theorem bCL:Tryz.f5.params.all (Tryz.prog.readableRec ·)=true:=by kernel_rfl
theorem bCM:namedTie Tryz.prog Rows.viewAnyRow.named Rows.viewAnySpec.vars=true:=by kernel_rfl
theorem bCN:(Rows.viewAnyRow.stops==[])=true:=by kernel_rfl
theorem bCO:(Tryz.prog.stops==[])=true:=by kernel_rfl
theorem bCP:(Rows.viewAnyRow.knobs==[])=true:=by kernel_rfl
theorem bCQ:(Tryz.prog.stopKnobs==[])=true:=by kernel_rfl
theorem aYA:(Rows.viewAnyRow.inPlace==Tryz.prog.inPlace 5)=true:=by kernel_rfl
theorem aYB:(Rows.viewAnyRow.unfollowed==Tryz.prog.unfollowed 5)=true:=by kernel_rfl
theorem aYC:(Rows.viewAnyRow.recurses==Tryz.prog.recurses 5)=true:=by kernel_rfl
theorem aYD:(Rows.viewAnyRow.named==Tryz.prog.varsNamed 5)=true:=by kernel_rfl
theorem aYE:(Rows.viewAnyRow.maps==(Tryz.f5.params.toList++Rows.viewAnySpec.plain.varTypes Tryz.prog).any (Tryz.prog.mapsRec ·))=true:=by kernel_rfl
theorem aYF:(Rows.viewAnyRow.ifaces==(Tryz.f5.params.toList++Rows.viewAnySpec.plain.varTypes Tryz.prog).any (Tryz.prog.ifacesRec ·))=true:=by kernel_rfl
theorem aYG:(Rows.viewAnyRow.mapsOut==Tryz.prog.mapsAmong Tryz.f5.resultTypes.toList)=true:=by kernel_rfl
theorem aYH:(Rows.viewAnyRow.loops==(Tryz.f5.params.toList++Rows.viewAnySpec.plain.varTypes Tryz.prog).any (Tryz.prog.loopsFrom ·))=true:=by kernel_rfl
theorem aYI:(Rows.viewAnyRow.wideKeys==(Tryz.f5.params.toList++Rows.viewAnySpec.plain.varTypes Tryz.prog++Tryz.f5.resultTypes.toList).any (Tryz.prog.wideKeysFrom ·))=true:=by kernel_rfl
theorem aYJ:Rows.viewAnySpec.vars.all (Tryz.prog.varReadable ·)=true:=by kernel_rfl
theorem aYK:Tryz.f5.resultTypes.all (fun t=>Tryz.prog.readableRec t&&decide (t<Tryz.prog.types.size))=true:=by kernel_rfl
theorem aYL:(Rows.viewAnyRow.ifacesOut==Tryz.f5.resultTypes.toList.any (Tryz.prog.ifacesRec ·))=true:=by kernel_rfl
theorem aYM:(Rows.viewAnyRow.loopsOut==Tryz.f5.resultTypes.toList.any (Tryz.prog.loopsFrom ·))=true:=by kernel_rfl
theorem aYN:(Rows.viewAnyRow.plainKeys==Tryz.prog.plainKeys)=true:=by kernel_rfl
theorem aYO:Rows.viewAnyRow.shortTexts.isNone=true:=by kernel_rfl
theorem aYP:Tryz.prog.stopsHeard=true:=by kernel_rfl
theorem aYQ:Tryz.prog.mayEnter=true:=by kernel_rfl
theorem aYR:(Rows.viewAnyRow.lifted==Tryz.prog.liftsFinal)=true:=by kernel_rfl
theorem aYS:(Tryz.prog.make==some Rows.viewAnyRow.make)=true:=by kernel_rfl
theorem aYT:(Rows.viewAnyRow.kinds==(if Rows.viewAnyRow.domain.isEmpty then [] else Tryz.f5.params.toList.map fun t=>match Tryz.prog.underlying t with |some (.int k)=>some k|_=>none))=true:=by kernel_rfl
theorem aYU:(Rows.viewAnyRow.pinned==Rows.viewAnyRow.pinnedBy)=true:=by kernel_rfl
theorem aYV:(Rows.viewAnyRow.veiled==(Tryz.f5.params.toList++Rows.viewAnySpec.plain.varTypes Tryz.prog++Tryz.f5.resultTypes.toList).any (Tryz.prog.veiledRec ·))=true:=by kernel_rfl
theorem aYW:Rows.viewAnyRow.veiledFits Tryz.prog Tryz.f5.params.toList (Tryz.f5.params.toList++Rows.viewAnySpec.plain.varTypes Tryz.prog++Tryz.f5.resultTypes.toList)=true:=by kernel_rfl
theorem aNT:joinedFacts Tryz.prog 5 Tryz.f5 (Rows.viewAnySpec) Rows.viewAnyRow=true:=by unfold joinedFacts;exact lO (lO (lO (lO (lO (lO (lO (lO (lO (lO (lO (lO (lO (lO (lO (lO (lO (lO (lO (lO (lO (lO (lO (lO (lO (lO (lO (lO (lO (lO (lO bCI bCJ) bCK) bCL) bCM) bCN) bCO) bCP) bCQ) aYA) aYB) aYC) aYD) aYE) aYF) aYG) aYH) aYI) aYJ) aYK) aYL) aYM) aYN) aYO) aYP) aYQ) aYR) aYS) aYT) aYU) aYV) aYW
end Go.Proofs.YtfljoehbbncooaaGreat
