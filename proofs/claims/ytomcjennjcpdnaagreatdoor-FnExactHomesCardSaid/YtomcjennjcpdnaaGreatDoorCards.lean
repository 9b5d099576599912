/-
  DERIVED. GIVEN WITH THE SEED: THE CARDS: each row of YtomcjennjcpdnaaGreatDoorRows.lean that lists a variable, with what it lists TIED to the program's text (the seventh form; the later family's looks); each row that meets fmt, with fmt's text TOLD by the authors' own Lean function (tested against real Go, not proved from fmt's source: count such statements apart). THE CARD IS WHAT COUNTS. Prove the row's statement (the work); the ties are given (YtomcjennjcpdnaaGreatDoorTie.lean); close each card by the builder's one call (the guide's Derived/Test/ToyasCard.lean, 'card_holds'). Laid BY PROGRAM, IN A SANDBOX (cutbox-door.mjs). By AI agents, Wed Nov 11 2026. No macro, syntax, notation, axiom, sorry.
-/
import Derived.Test.YtomcjennjcpdnaaGreatDoorRows
import GoSem.ClaimSeven
namespace Go.Proofs.YtomcjennjcpdnaaGreatDoor
namespace Rows

/-- THE TIED CARD OF 'laws.FnExactHomes'. -/
def fnExactHomesCard : Claim7 := { stood := { row := fnExactHomesRow, standIns := [], harness := (true, "585d570e3201c445b8e3ba535f8f0e1d7a28bfe4fcf3fe433479c9e75fbb52e6"), looks := false }, kinds := [], alts := [], laidByText := true, laidKinds := [.data], laidTests := true, laidLooks := .later }
def FnExactHomesCardSaid : Prop := Claim7.holds Tryz.pinned (.plain (OpenSpec.ofChange fnExactHomesSpec)) fnExactHomesCard

/-- THE SECOND FORM's CARD OF 'laws.FnExactHomes'. -/
def fnExactHomesUptoCard : Claim7 := { stood := { row := fnExactHomesUptoRow, standIns := [], harness := (true, "585d570e3201c445b8e3ba535f8f0e1d7a28bfe4fcf3fe433479c9e75fbb52e6"), looks := false }, kinds := [], alts := [], laidByText := true, laidKinds := [.data], laidTests := true, laidLooks := .later }
def FnExactHomesUptoCardSaid : Prop := Claim7.holds Tryz.pinned (.plain (OpenSpec.upto fnExactHomesSpec)) fnExactHomesUptoCard
end Rows
end Go.Proofs.YtomcjennjcpdnaaGreatDoor
