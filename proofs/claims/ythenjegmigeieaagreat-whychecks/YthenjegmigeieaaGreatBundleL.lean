/- Own texts, one behind the other (part 12). -/
import Derived.Test.YthenjegmigeieaaGreatBundleK
import Derived.Test.YthenjegmigeieaaGreatRows
import Derived.ProofKit
import Derived.JoinedOf
set_option maxRecDepth 100000
set_option maxHeartbeats 8000000
namespace Go.Proofs.YthenjegmigeieaaGreat
open Go.ChangeShapes Go.WideShapes Go.ChangeAt Go.RowKit
theorem fO{a b:Bool}(ha:a=true)(hb:b=true):(a&&b)=true:=by rw[ha,hb];rfl
theorem aCU:Rows.whyChecksRow.wf (OpenSpec.ofChange Rows.whyChecksSpec)=true:=by kernel_rfl
theorem aCV:laidOutB Tryz.prog=true:=by kernel_rfl
theorem aCW:mapsRowed Tryz.prog=true:=by kernel_rfl
theorem aCX:Tryz.f9.params.all (Tryz.prog.readableRec ·)=true:=by kernel_rfl
theorem aCY:namedTie Tryz.prog Rows.whyChecksRow.named Rows.whyChecksSpec.vars=true:=by kernel_rfl
theorem aCZ:(Rows.whyChecksRow.stops==[])=true:=by kernel_rfl
theorem aC0:(Tryz.prog.stops==[])=true:=by kernel_rfl
theorem aC1:(Rows.whyChecksRow.knobs==[])=true:=by kernel_rfl
theorem aC2:(Tryz.prog.stopKnobs==[])=true:=by kernel_rfl
theorem Pz:(Rows.whyChecksRow.inPlace==Tryz.prog.inPlace 9)=true:=by kernel_rfl
theorem Qb:(Rows.whyChecksRow.unfollowed==Tryz.prog.unfollowed 9)=true:=by kernel_rfl
theorem Qc:(Rows.whyChecksRow.recurses==Tryz.prog.recurses 9)=true:=by kernel_rfl
theorem Qd:(Rows.whyChecksRow.named==Tryz.prog.varsNamed 9)=true:=by kernel_rfl
theorem Qf:(Rows.whyChecksRow.maps==(Tryz.f9.params.toList++Rows.whyChecksSpec.plain.varTypes Tryz.prog).any (Tryz.prog.mapsRec ·))=true:=by kernel_rfl
theorem Qg:(Rows.whyChecksRow.ifaces==(Tryz.f9.params.toList++Rows.whyChecksSpec.plain.varTypes Tryz.prog).any (Tryz.prog.ifacesRec ·))=true:=by kernel_rfl
theorem Qh:(Rows.whyChecksRow.mapsOut==Tryz.prog.mapsAmong Tryz.f9.resultTypes.toList)=true:=by kernel_rfl
theorem Qj:(Rows.whyChecksRow.loops==(Tryz.f9.params.toList++Rows.whyChecksSpec.plain.varTypes Tryz.prog).any (Tryz.prog.loopsFrom ·))=true:=by kernel_rfl
theorem Qk:(Rows.whyChecksRow.wideKeys==(Tryz.f9.params.toList++Rows.whyChecksSpec.plain.varTypes Tryz.prog++Tryz.f9.resultTypes.toList).any (Tryz.prog.wideKeysFrom ·))=true:=by kernel_rfl
theorem Qm:Rows.whyChecksSpec.vars.all (Tryz.prog.varReadable ·)=true:=by kernel_rfl
theorem Qp:Tryz.f9.resultTypes.all (fun t=>Tryz.prog.readableRec t&&decide (t<Tryz.prog.types.size))=true:=by kernel_rfl
theorem Qq:(Rows.whyChecksRow.ifacesOut==Tryz.f9.resultTypes.toList.any (Tryz.prog.ifacesRec ·))=true:=by kernel_rfl
theorem Qv:(Rows.whyChecksRow.loopsOut==Tryz.f9.resultTypes.toList.any (Tryz.prog.loopsFrom ·))=true:=by kernel_rfl
theorem Qw:(Rows.whyChecksRow.plainKeys==Tryz.prog.plainKeys)=true:=by kernel_rfl
theorem Qx:Rows.whyChecksRow.shortTexts.isNone=true:=by kernel_rfl
theorem Qy:Tryz.prog.stopsHeard=true:=by kernel_rfl
theorem Qz:Tryz.prog.mayEnter=true:=by kernel_rfl
theorem Rb:(Rows.whyChecksRow.lifted==Tryz.prog.liftsFinal)=true:=by kernel_rfl
theorem Rc:(Tryz.prog.make==some Rows.whyChecksRow.make)=true:=by kernel_rfl
theorem Rf:(Rows.whyChecksRow.kinds==(if Rows.whyChecksRow.domain.isEmpty then [] else Tryz.f9.params.toList.map fun t=>match Tryz.prog.underlying t with |some (.int k)=>some k|_=>none))=true:=by kernel_rfl
theorem Rh:(Rows.whyChecksRow.pinned==Rows.whyChecksRow.pinnedBy)=true:=by kernel_rfl
theorem Rj:(Rows.whyChecksRow.veiled==(Tryz.f9.params.toList++Rows.whyChecksSpec.plain.varTypes Tryz.prog++Tryz.f9.resultTypes.toList).any (Tryz.prog.veiledRec ·))=true:=by kernel_rfl
theorem Rk:Rows.whyChecksRow.veiledFits Tryz.prog Tryz.f9.params.toList (Tryz.f9.params.toList++Rows.whyChecksSpec.plain.varTypes Tryz.prog++Tryz.f9.resultTypes.toList)=true:=by kernel_rfl
theorem Cz:joinedFacts Tryz.prog 9 Tryz.f9 (Rows.whyChecksSpec) Rows.whyChecksRow=true:=by unfold joinedFacts;exact fO (fO (fO (fO (fO (fO (fO (fO (fO (fO (fO (fO (fO (fO (fO (fO (fO (fO (fO (fO (fO (fO (fO (fO (fO (fO (fO (fO (fO (fO (fO aCU aCV) aCW) aCX) aCY) aCZ) aC0) aC1) aC2) Pz) Qb) Qc) Qd) Qf) Qg) Qh) Qj) Qk) Qm) Qp) Qq) Qv) Qw) Qx) Qy) Qz) Rb) Rc) Rf) Rh) Rj) Rk
end Go.Proofs.YthenjegmigeieaaGreat
