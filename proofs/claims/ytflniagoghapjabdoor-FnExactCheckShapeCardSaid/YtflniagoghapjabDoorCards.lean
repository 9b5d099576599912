/-
  DERIVED. GIVEN WITH THE SEED: THE CARDS: each row of YtflniagoghapjabDoorRows.lean that lists a variable, with what it lists TIED to the program's text (the seventh form; the later family's looks); each row that meets fmt, with fmt's text TOLD by the authors' own Lean function (tested against real Go, not proved from fmt's source: count such statements apart). THE CARD IS WHAT COUNTS. Prove the row's statement (the work); the ties are given (YtflniagoghapjabDoorTie.lean); close each card by the builder's one call (the guide's Derived/Test/ToyasCard.lean, 'card_holds'). Laid BY PROGRAM, IN A SANDBOX (cutbox-door.mjs). By AI agents, Wed Nov 11 2026. No macro, syntax, notation, axiom, sorry.
-/
import Derived.Test.YtflniagoghapjabDoorRows
import GoSem.ClaimSeven
namespace Go.Proofs.YtflniagoghapjabDoor
namespace Rows

/-- THE TIED CARD OF 'laws.FnExactCheckUnit'. -/
def fnExactCheckUnitCard : Claim7 := { stood := { row := fnExactCheckUnitRow, standIns := [], harness := (true, "dd9d737a3e382d40359b41430aa4118be0810627f78f6e904f249faff3b3f1c7"), looks := false }, kinds := [], alts := [], laidByText := true, laidKinds := [.data], laidTests := true, laidLooks := .later }
def FnExactCheckUnitCardSaid : Prop := Claim7.holds Tryd.pinned (.plain (OpenSpec.ofChange fnExactCheckUnitSpec)) fnExactCheckUnitCard

/-- THE TIED CARD OF 'laws.FnExactCheckShape'. -/
def fnExactCheckShapeCard : Claim7 := { stood := { row := fnExactCheckShapeRow, standIns := [], harness := (true, "dd9d737a3e382d40359b41430aa4118be0810627f78f6e904f249faff3b3f1c7"), looks := false }, kinds := [], alts := [], laidByText := true, laidKinds := [.data], laidTests := true, laidLooks := .later }
def FnExactCheckShapeCardSaid : Prop := Claim7.holds Tryd.pinned (.plain (OpenSpec.ofChange fnExactCheckShapeSpec)) fnExactCheckShapeCard

/-- THE SECOND FORM's CARD OF 'laws.FnExactCheckUnit'. -/
def fnExactCheckUnitUptoCard : Claim7 := { stood := { row := fnExactCheckUnitUptoRow, standIns := [], harness := (true, "dd9d737a3e382d40359b41430aa4118be0810627f78f6e904f249faff3b3f1c7"), looks := false }, kinds := [], alts := [], laidByText := true, laidKinds := [.data], laidTests := true, laidLooks := .later }
def FnExactCheckUnitUptoCardSaid : Prop := Claim7.holds Tryd.pinned (.plain (OpenSpec.upto fnExactCheckUnitSpec)) fnExactCheckUnitUptoCard

/-- THE SECOND FORM's CARD OF 'laws.FnExactCheckShape'. -/
def fnExactCheckShapeUptoCard : Claim7 := { stood := { row := fnExactCheckShapeUptoRow, standIns := [], harness := (true, "dd9d737a3e382d40359b41430aa4118be0810627f78f6e904f249faff3b3f1c7"), looks := false }, kinds := [], alts := [], laidByText := true, laidKinds := [.data], laidTests := true, laidLooks := .later }
def FnExactCheckShapeUptoCardSaid : Prop := Claim7.holds Tryd.pinned (.plain (OpenSpec.upto fnExactCheckShapeSpec)) fnExactCheckShapeUptoCard
end Rows
end Go.Proofs.YtflniagoghapjabDoor
