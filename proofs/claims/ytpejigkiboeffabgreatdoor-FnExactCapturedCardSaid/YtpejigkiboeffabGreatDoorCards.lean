/-
  DERIVED. GIVEN WITH THE SEED: THE CARDS: each row of YtpejigkiboeffabGreatDoorRows.lean that lists a variable, with what it lists TIED to the program's text (the seventh form; the later family's looks); each row that meets fmt, with fmt's text TOLD by the authors' own Lean function (tested against real Go, not proved from fmt's source: count such statements apart). THE CARD IS WHAT COUNTS. Prove the row's statement (the work); the ties are given (YtpejigkiboeffabGreatDoorTie.lean); close each card by the builder's one call (the guide's Derived/Test/ToyasCard.lean, 'card_holds'). Laid BY PROGRAM, IN A SANDBOX (cutbox-door.mjs). By AI agents, Wed Nov 11 2026. No macro, syntax, notation, axiom, sorry.
-/
import Derived.Test.YtpejigkiboeffabGreatDoorRows
import GoSem.ClaimSeven
namespace Go.Proofs.YtpejigkiboeffabGreatDoor
namespace Rows

/-- THE TIED CARD OF 'laws.FnExactCheckCode'. -/
def fnExactCheckCodeCard : Claim7 := { stood := { row := fnExactCheckCodeRow, standIns := [], harness := (true, "7f477bf94d892380650842e648fadec8aa95bd47260623a415a6a31c7b654173"), looks := false }, kinds := [], alts := [], laidByText := true, laidKinds := [.data], laidTests := true, laidLooks := .later }
def FnExactCheckCodeCardSaid : Prop := Claim7.holds Tryz.pinned (.plain (OpenSpec.ofChange fnExactCheckCodeSpec)) fnExactCheckCodeCard

/-- THE TIED CARD OF 'laws.FnExactStates'. -/
def fnExactStatesCard : Claim7 := { stood := { row := fnExactStatesRow, standIns := [], harness := (true, "7f477bf94d892380650842e648fadec8aa95bd47260623a415a6a31c7b654173"), looks := false }, kinds := [], alts := [], laidByText := true, laidKinds := [.data], laidTests := true, laidLooks := .later }
def FnExactStatesCardSaid : Prop := Claim7.holds Tryz.pinned (.plain (OpenSpec.ofChange fnExactStatesSpec)) fnExactStatesCard

/-- THE TIED CARD OF 'laws.FnExactCaptured'. -/
def fnExactCapturedCard : Claim7 := { stood := { row := fnExactCapturedRow, standIns := [], harness := (true, "7f477bf94d892380650842e648fadec8aa95bd47260623a415a6a31c7b654173"), looks := false }, kinds := [], alts := [], laidByText := true, laidKinds := [.data], laidTests := true, laidLooks := .later }
def FnExactCapturedCardSaid : Prop := Claim7.holds Tryz.pinned (.plain (OpenSpec.ofChange fnExactCapturedSpec)) fnExactCapturedCard

/-- THE TIED CARD OF 'laws.FnExactHomes'. -/
def fnExactHomesCard : Claim7 := { stood := { row := fnExactHomesRow, standIns := [], harness := (true, "7f477bf94d892380650842e648fadec8aa95bd47260623a415a6a31c7b654173"), looks := false }, kinds := [], alts := [], laidByText := true, laidKinds := [.data], laidTests := true, laidLooks := .later }
def FnExactHomesCardSaid : Prop := Claim7.holds Tryz.pinned (.plain (OpenSpec.ofChange fnExactHomesSpec)) fnExactHomesCard

/-- THE SECOND FORM's CARD OF 'laws.FnExactCheckCode'. -/
def fnExactCheckCodeUptoCard : Claim7 := { stood := { row := fnExactCheckCodeUptoRow, standIns := [], harness := (true, "7f477bf94d892380650842e648fadec8aa95bd47260623a415a6a31c7b654173"), looks := false }, kinds := [], alts := [], laidByText := true, laidKinds := [.data], laidTests := true, laidLooks := .later }
def FnExactCheckCodeUptoCardSaid : Prop := Claim7.holds Tryz.pinned (.plain (OpenSpec.upto fnExactCheckCodeSpec)) fnExactCheckCodeUptoCard

/-- THE SECOND FORM's CARD OF 'laws.FnExactStates'. -/
def fnExactStatesUptoCard : Claim7 := { stood := { row := fnExactStatesUptoRow, standIns := [], harness := (true, "7f477bf94d892380650842e648fadec8aa95bd47260623a415a6a31c7b654173"), looks := false }, kinds := [], alts := [], laidByText := true, laidKinds := [.data], laidTests := true, laidLooks := .later }
def FnExactStatesUptoCardSaid : Prop := Claim7.holds Tryz.pinned (.plain (OpenSpec.upto fnExactStatesSpec)) fnExactStatesUptoCard

/-- THE SECOND FORM's CARD OF 'laws.FnExactCaptured'. -/
def fnExactCapturedUptoCard : Claim7 := { stood := { row := fnExactCapturedUptoRow, standIns := [], harness := (true, "7f477bf94d892380650842e648fadec8aa95bd47260623a415a6a31c7b654173"), looks := false }, kinds := [], alts := [], laidByText := true, laidKinds := [.data], laidTests := true, laidLooks := .later }
def FnExactCapturedUptoCardSaid : Prop := Claim7.holds Tryz.pinned (.plain (OpenSpec.upto fnExactCapturedSpec)) fnExactCapturedUptoCard

/-- THE SECOND FORM's CARD OF 'laws.FnExactHomes'. -/
def fnExactHomesUptoCard : Claim7 := { stood := { row := fnExactHomesUptoRow, standIns := [], harness := (true, "7f477bf94d892380650842e648fadec8aa95bd47260623a415a6a31c7b654173"), looks := false }, kinds := [], alts := [], laidByText := true, laidKinds := [.data], laidTests := true, laidLooks := .later }
def FnExactHomesUptoCardSaid : Prop := Claim7.holds Tryz.pinned (.plain (OpenSpec.upto fnExactHomesSpec)) fnExactHomesUptoCard
end Rows
end Go.Proofs.YtpejigkiboeffabGreatDoor
