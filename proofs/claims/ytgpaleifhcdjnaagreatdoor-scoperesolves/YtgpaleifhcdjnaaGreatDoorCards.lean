/-
  DERIVED. GIVEN WITH THE SEED: THE CARDS: each row of YtgpaleifhcdjnaaGreatDoorRows.lean that lists a variable, with what it lists TIED to the program's text (the seventh form; the later family's looks); each row that meets fmt, with fmt's text TOLD by the authors' own Lean function (tested against real Go, not proved from fmt's source: count such statements apart). THE CARD IS WHAT COUNTS. Prove the row's statement (the work); the ties are given (YtgpaleifhcdjnaaGreatDoorTie.lean); close each card by the builder's one call (the guide's Derived/Test/ToyasCard.lean, 'card_holds'). Laid BY PROGRAM, IN A SANDBOX (cutbox-door.mjs). By AI agents, Wed Nov 11 2026. No macro, syntax, notation, axiom, sorry.
-/
import Derived.Test.YtgpaleifhcdjnaaGreatDoorRows
import GoSem.ClaimSeven
namespace Go.Proofs.YtgpaleifhcdjnaaGreatDoor
namespace Rows

/-- THE TIED CARD OF 'groundworklaw.ScopeChecks'. -/
def scopeChecksCard : Claim7 := { stood := { row := scopeChecksRow, standIns := [], harness := (true, "008cb809653358e1661b723a6fcea691873c2c13200545b62d8acb935f282a4c"), looks := true }, kinds := [], alts := [], laidByText := true, laidKinds := [.data, .data, .data, .sentinel, .sentinel], laidTests := true, laidLooks := .later }
def ScopeChecksCardSaid : Prop := Claim7.holds Tryz.pinned (.plain (OpenSpec.ofChange scopeChecksSpec)) scopeChecksCard

/-- THE TIED CARD OF 'groundworklaw.ScopeResolves'. -/
def scopeResolvesCard : Claim7 := { stood := { row := scopeResolvesRow, standIns := [], harness := (true, "008cb809653358e1661b723a6fcea691873c2c13200545b62d8acb935f282a4c"), looks := true }, kinds := [], alts := [], laidByText := true, laidKinds := [.data, .data, .data, .sentinel, .sentinel], laidTests := true, laidLooks := .later }
def ScopeResolvesCardSaid : Prop := Claim7.holds Tryz.pinned (.plain (OpenSpec.ofChange scopeResolvesSpec)) scopeResolvesCard

/-- THE TIED CARD OF 'groundworklaw.ScopePrograms'. -/
def scopeProgramsCard : Claim7 := { stood := { row := scopeProgramsRow, standIns := [], harness := (true, "008cb809653358e1661b723a6fcea691873c2c13200545b62d8acb935f282a4c"), looks := true }, kinds := [], alts := [], laidByText := true, laidKinds := [.data, .data, .data, .sentinel, .sentinel], laidTests := true, laidLooks := .later }
def ScopeProgramsCardSaid : Prop := Claim7.holds Tryz.pinned (.plain (OpenSpec.ofChange scopeProgramsSpec)) scopeProgramsCard

/-- THE TIED CARD OF 'groundworklaw.RestTexts'. -/
def restTextsCard : Claim7 := { stood := { row := restTextsRow, standIns := [], harness := (true, "008cb809653358e1661b723a6fcea691873c2c13200545b62d8acb935f282a4c"), looks := true }, kinds := [], alts := [], laidByText := true, laidKinds := [.data, .data, .data, .sentinel, .sentinel], laidTests := true, laidLooks := .later }
def RestTextsCardSaid : Prop := Claim7.holds Tryz.pinned (.plain (OpenSpec.ofChange restTextsSpec)) restTextsCard

/-- THE SECOND FORM's CARD OF 'groundworklaw.ScopeChecks'. -/
def scopeChecksUptoCard : Claim7 := { stood := { row := scopeChecksUptoRow, standIns := [], harness := (true, "008cb809653358e1661b723a6fcea691873c2c13200545b62d8acb935f282a4c"), looks := true }, kinds := [], alts := [], laidByText := true, laidKinds := [.data, .data, .data, .sentinel, .sentinel], laidTests := true, laidLooks := .later }
def ScopeChecksUptoCardSaid : Prop := Claim7.holds Tryz.pinned (.plain (OpenSpec.upto scopeChecksSpec)) scopeChecksUptoCard

/-- THE SECOND FORM's CARD OF 'groundworklaw.ScopeResolves'. -/
def scopeResolvesUptoCard : Claim7 := { stood := { row := scopeResolvesUptoRow, standIns := [], harness := (true, "008cb809653358e1661b723a6fcea691873c2c13200545b62d8acb935f282a4c"), looks := true }, kinds := [], alts := [], laidByText := true, laidKinds := [.data, .data, .data, .sentinel, .sentinel], laidTests := true, laidLooks := .later }
def ScopeResolvesUptoCardSaid : Prop := Claim7.holds Tryz.pinned (.plain (OpenSpec.upto scopeResolvesSpec)) scopeResolvesUptoCard

/-- THE SECOND FORM's CARD OF 'groundworklaw.ScopePrograms'. -/
def scopeProgramsUptoCard : Claim7 := { stood := { row := scopeProgramsUptoRow, standIns := [], harness := (true, "008cb809653358e1661b723a6fcea691873c2c13200545b62d8acb935f282a4c"), looks := true }, kinds := [], alts := [], laidByText := true, laidKinds := [.data, .data, .data, .sentinel, .sentinel], laidTests := true, laidLooks := .later }
def ScopeProgramsUptoCardSaid : Prop := Claim7.holds Tryz.pinned (.plain (OpenSpec.upto scopeProgramsSpec)) scopeProgramsUptoCard

/-- THE SECOND FORM's CARD OF 'groundworklaw.RestTexts'. -/
def restTextsUptoCard : Claim7 := { stood := { row := restTextsUptoRow, standIns := [], harness := (true, "008cb809653358e1661b723a6fcea691873c2c13200545b62d8acb935f282a4c"), looks := true }, kinds := [], alts := [], laidByText := true, laidKinds := [.data, .data, .data, .sentinel, .sentinel], laidTests := true, laidLooks := .later }
def RestTextsUptoCardSaid : Prop := Claim7.holds Tryz.pinned (.plain (OpenSpec.upto restTextsSpec)) restTextsUptoCard
end Rows
end Go.Proofs.YtgpaleifhcdjnaaGreatDoor
