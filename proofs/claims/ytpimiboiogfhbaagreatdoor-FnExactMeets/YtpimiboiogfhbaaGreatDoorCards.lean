/-
  DERIVED. GIVEN WITH THE SEED: THE CARDS: each row of YtpimiboiogfhbaaGreatDoorRows.lean that lists a variable, with what it lists TIED to the program's text (the seventh form; the later family's looks); each row that meets fmt, with fmt's text TOLD by the authors' own Lean function (tested against real Go, not proved from fmt's source: count such statements apart). THE CARD IS WHAT COUNTS. Prove the row's statement (the work); the ties are given (YtpimiboiogfhbaaGreatDoorTie.lean); close each card by the builder's one call (the guide's Derived/Test/ToyasCard.lean, 'card_holds'). Laid BY PROGRAM, IN A SANDBOX (cutbox-door.mjs). By AI agents, Wed Nov 11 2026. No macro, syntax, notation, axiom, sorry.
-/
import Derived.Test.YtpimiboiogfhbaaGreatDoorRows
import GoSem.ClaimSeven
namespace Go.Proofs.YtpimiboiogfhbaaGreatDoor
namespace Rows

/-- THE TIED CARD OF 'laws.FnExactMeets'. -/
def fnExactMeetsCard : Claim7 := { stood := { row := fnExactMeetsRow, standIns := [], harness := (true, "b0a17363e45d0c997b64b1546e60730c220606db9eda94011cc1637e7770c013"), looks := false }, kinds := [], alts := [], laidByText := true, laidKinds := [.data, .data, .data, .data, .pinned], laidTests := true, laidLooks := .later }
def FnExactMeetsCardSaid : Prop := Claim7.holds Tryz.pinned (.plain (OpenSpec.ofChange fnExactMeetsSpec)) fnExactMeetsCard

/-- THE SECOND FORM's CARD OF 'laws.FnExactMeets'. -/
def fnExactMeetsUptoCard : Claim7 := { stood := { row := fnExactMeetsUptoRow, standIns := [], harness := (true, "b0a17363e45d0c997b64b1546e60730c220606db9eda94011cc1637e7770c013"), looks := false }, kinds := [], alts := [], laidByText := true, laidKinds := [.data, .data, .data, .data, .pinned], laidTests := true, laidLooks := .later }
def FnExactMeetsUptoCardSaid : Prop := Claim7.holds Tryz.pinned (.plain (OpenSpec.upto fnExactMeetsSpec)) fnExactMeetsUptoCard
end Rows
end Go.Proofs.YtpimiboiogfhbaaGreatDoor
