/-
  DERIVED. GIVEN WITH THE SEED: THE CARDS: each row of YtofcbekoaghikaaGreatDoorRows.lean that lists a variable, with what it lists TIED to the program's text (the seventh form; the later family's looks); each row that meets fmt, with fmt's text TOLD by the authors' own Lean function (tested against real Go, not proved from fmt's source: count such statements apart). THE CARD IS WHAT COUNTS. Prove the row's statement (the work); the ties are given (YtofcbekoaghikaaGreatDoorTie.lean); close each card by the builder's one call (the guide's Derived/Test/ToyasCard.lean, 'card_holds'). Laid BY PROGRAM, IN A SANDBOX (cutbox-door.mjs). By AI agents, Wed Nov 11 2026. No macro, syntax, notation, axiom, sorry.
-/
import Derived.Test.YtofcbekoaghikaaGreatDoorRows
import GoSem.ClaimSeven
namespace Go.Proofs.YtofcbekoaghikaaGreatDoor
namespace Rows

/-- THE TIED CARD OF 'laws.FnExactCaptured'. -/
def fnExactCapturedCard : Claim7 := { stood := { row := fnExactCapturedRow, standIns := [], harness := (true, "b6d2d4d6059efc8f5c2fb8f1830f0576a075b3fa98baf1582083467d8cf47312"), looks := false }, kinds := [], alts := [], laidByText := true, laidKinds := [.data], laidTests := true, laidLooks := .later }
def FnExactCapturedCardSaid : Prop := Claim7.holds Tryz.pinned (.plain (OpenSpec.ofChange fnExactCapturedSpec)) fnExactCapturedCard

/-- THE SECOND FORM's CARD OF 'laws.FnExactCaptured'. -/
def fnExactCapturedUptoCard : Claim7 := { stood := { row := fnExactCapturedUptoRow, standIns := [], harness := (true, "b6d2d4d6059efc8f5c2fb8f1830f0576a075b3fa98baf1582083467d8cf47312"), looks := false }, kinds := [], alts := [], laidByText := true, laidKinds := [.data], laidTests := true, laidLooks := .later }
def FnExactCapturedUptoCardSaid : Prop := Claim7.holds Tryz.pinned (.plain (OpenSpec.upto fnExactCapturedSpec)) fnExactCapturedUptoCard
end Rows
end Go.Proofs.YtofcbekoaghikaaGreatDoor
