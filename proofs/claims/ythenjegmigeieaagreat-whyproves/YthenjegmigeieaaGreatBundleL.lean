/- Own texts, one behind the other (part 12). -/
import Derived.Test.YthenjegmigeieaaGreatBundleK
import Derived.Test.YthenjegmigeieaaGreatRows
import Derived.ProofKit
import Derived.JoinedOf
set_option maxRecDepth 100000
set_option maxHeartbeats 8000000
namespace Go.Proofs.YthenjegmigeieaaGreat
open Go.ChangeShapes Go.WideShapes Go.ChangeAt Go.RowKit
theorem fP{a b:Bool}(ha:a=true)(hb:b=true):(a&&b)=true:=by rw[ha,hb];rfl
theorem aC3:Rows.whyProvesRow.wf (OpenSpec.ofChange Rows.whyProvesSpec)=true:=by kernel_rfl
theorem aC4:laidOutB Tryz.prog=true:=by kernel_rfl
theorem aC5:mapsRowed Tryz.prog=true:=by kernel_rfl
theorem aC6:Tryz.f10.params.all (Tryz.prog.readableRec ·)=true:=by kernel_rfl
theorem aC7:namedTie Tryz.prog Rows.whyProvesRow.named Rows.whyProvesSpec.vars=true:=by kernel_rfl
theorem aC8:(Rows.whyProvesRow.stops==[])=true:=by kernel_rfl
theorem aC9:(Tryz.prog.stops==[])=true:=by kernel_rfl
theorem aDA:(Rows.whyProvesRow.knobs==[])=true:=by kernel_rfl
theorem aDB:(Tryz.prog.stopKnobs==[])=true:=by kernel_rfl
theorem Rp:(Rows.whyProvesRow.inPlace==Tryz.prog.inPlace 10)=true:=by kernel_rfl
theorem Rw:(Rows.whyProvesRow.unfollowed==Tryz.prog.unfollowed 10)=true:=by kernel_rfl
theorem Rx:(Rows.whyProvesRow.recurses==Tryz.prog.recurses 10)=true:=by kernel_rfl
theorem Ry:(Rows.whyProvesRow.named==Tryz.prog.varsNamed 10)=true:=by kernel_rfl
theorem Rz:(Rows.whyProvesRow.maps==(Tryz.f10.params.toList++Rows.whyProvesSpec.plain.varTypes Tryz.prog).any (Tryz.prog.mapsRec ·))=true:=by kernel_rfl
theorem Sd:(Rows.whyProvesRow.ifaces==(Tryz.f10.params.toList++Rows.whyProvesSpec.plain.varTypes Tryz.prog).any (Tryz.prog.ifacesRec ·))=true:=by kernel_rfl
theorem Sf:(Rows.whyProvesRow.mapsOut==Tryz.prog.mapsAmong Tryz.f10.resultTypes.toList)=true:=by kernel_rfl
theorem Sg:(Rows.whyProvesRow.loops==(Tryz.f10.params.toList++Rows.whyProvesSpec.plain.varTypes Tryz.prog).any (Tryz.prog.loopsFrom ·))=true:=by kernel_rfl
theorem Sh:(Rows.whyProvesRow.wideKeys==(Tryz.f10.params.toList++Rows.whyProvesSpec.plain.varTypes Tryz.prog++Tryz.f10.resultTypes.toList).any (Tryz.prog.wideKeysFrom ·))=true:=by kernel_rfl
theorem Sj:Rows.whyProvesSpec.vars.all (Tryz.prog.varReadable ·)=true:=by kernel_rfl
theorem Sk:Tryz.f10.resultTypes.all (fun t=>Tryz.prog.readableRec t&&decide (t<Tryz.prog.types.size))=true:=by kernel_rfl
theorem Sm:(Rows.whyProvesRow.ifacesOut==Tryz.f10.resultTypes.toList.any (Tryz.prog.ifacesRec ·))=true:=by kernel_rfl
theorem Sq:(Rows.whyProvesRow.loopsOut==Tryz.f10.resultTypes.toList.any (Tryz.prog.loopsFrom ·))=true:=by kernel_rfl
theorem Sw:(Rows.whyProvesRow.plainKeys==Tryz.prog.plainKeys)=true:=by kernel_rfl
theorem Sx:Rows.whyProvesRow.shortTexts.isNone=true:=by kernel_rfl
theorem Sy:Tryz.prog.stopsHeard=true:=by kernel_rfl
theorem Sz:Tryz.prog.mayEnter=true:=by kernel_rfl
theorem Tb:(Rows.whyProvesRow.lifted==Tryz.prog.liftsFinal)=true:=by kernel_rfl
theorem Tc:(Tryz.prog.make==some Rows.whyProvesRow.make)=true:=by kernel_rfl
theorem Td:(Rows.whyProvesRow.kinds==(if Rows.whyProvesRow.domain.isEmpty then [] else Tryz.f10.params.toList.map fun t=>match Tryz.prog.underlying t with |some (.int k)=>some k|_=>none))=true:=by kernel_rfl
theorem Tf:(Rows.whyProvesRow.pinned==Rows.whyProvesRow.pinnedBy)=true:=by kernel_rfl
theorem Tg:(Rows.whyProvesRow.veiled==(Tryz.f10.params.toList++Rows.whyProvesSpec.plain.varTypes Tryz.prog++Tryz.f10.resultTypes.toList).any (Tryz.prog.veiledRec ·))=true:=by kernel_rfl
theorem Th:Rows.whyProvesRow.veiledFits Tryz.prog Tryz.f10.params.toList (Tryz.f10.params.toList++Rows.whyProvesSpec.plain.varTypes Tryz.prog++Tryz.f10.resultTypes.toList)=true:=by kernel_rfl
theorem Db:joinedFacts Tryz.prog 10 Tryz.f10 (Rows.whyProvesSpec) Rows.whyProvesRow=true:=by unfold joinedFacts;exact fP (fP (fP (fP (fP (fP (fP (fP (fP (fP (fP (fP (fP (fP (fP (fP (fP (fP (fP (fP (fP (fP (fP (fP (fP (fP (fP (fP (fP (fP (fP aC3 aC4) aC5) aC6) aC7) aC8) aC9) aDA) aDB) Rp) Rw) Rx) Ry) Rz) Sd) Sf) Sg) Sh) Sj) Sk) Sm) Sq) Sw) Sx) Sy) Sz) Tb) Tc) Td) Tf) Tg) Th
end Go.Proofs.YthenjegmigeieaaGreat
