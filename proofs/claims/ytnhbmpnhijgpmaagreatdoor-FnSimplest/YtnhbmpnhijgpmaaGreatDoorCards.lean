/-
  DERIVED. GIVEN WITH THE SEED: THE CARDS: each row of YtnhbmpnhijgpmaaGreatDoorRows.lean that lists a variable, with what it lists TIED to the program's text (the seventh form; the later family's looks); each row that meets fmt, with fmt's text TOLD by the authors' own Lean function (tested against real Go, not proved from fmt's source: count such statements apart). THE CARD IS WHAT COUNTS. Prove the row's statement (the work); the ties are given (YtnhbmpnhijgpmaaGreatDoorTie.lean); close each card by the builder's one call (the guide's Derived/Test/ToyasCard.lean, 'card_holds'). Laid BY PROGRAM, IN A SANDBOX (cutbox-door.mjs). By AI agents, Wed Nov 11 2026. No macro, syntax, notation, axiom, sorry.
-/
import Derived.Test.YtnhbmpnhijgpmaaGreatDoorRows
import GoSem.ClaimSeven
namespace Go.Proofs.YtnhbmpnhijgpmaaGreatDoor
namespace Rows

/-- THE TIED CARD OF 'laws.FnSimplest'. -/
def fnSimplestCard : Claim7 := { stood := { row := fnSimplestRow, standIns := [], harness := (true, "4b5a3a75100818d92459d692c2c45fe0014f8fb8b36b9d93dcd6e6ce424d2d36"), looks := false }, kinds := [], alts := [], laidByText := true, laidKinds := [.data, .data, .data, .data, .pinned], laidTests := true, laidLooks := .later }
def FnSimplestCardSaid : Prop := Claim7.holds Tryz.pinned (.plain (OpenSpec.ofChange fnSimplestSpec)) fnSimplestCard

/-- THE TIED CARD OF 'laws.FnExactSimplest'. -/
def fnExactSimplestCard : Claim7 := { stood := { row := fnExactSimplestRow, standIns := [], harness := (true, "4b5a3a75100818d92459d692c2c45fe0014f8fb8b36b9d93dcd6e6ce424d2d36"), looks := false }, kinds := [], alts := [], laidByText := true, laidKinds := [.data, .data, .data, .data, .pinned], laidTests := true, laidLooks := .later }
def FnExactSimplestCardSaid : Prop := Claim7.holds Tryz.pinned (.plain (OpenSpec.ofChange fnExactSimplestSpec)) fnExactSimplestCard

/-- THE SECOND FORM's CARD OF 'laws.FnSimplest'. -/
def fnSimplestUptoCard : Claim7 := { stood := { row := fnSimplestUptoRow, standIns := [], harness := (true, "4b5a3a75100818d92459d692c2c45fe0014f8fb8b36b9d93dcd6e6ce424d2d36"), looks := false }, kinds := [], alts := [], laidByText := true, laidKinds := [.data, .data, .data, .data, .pinned], laidTests := true, laidLooks := .later }
def FnSimplestUptoCardSaid : Prop := Claim7.holds Tryz.pinned (.plain (OpenSpec.upto fnSimplestSpec)) fnSimplestUptoCard

/-- THE SECOND FORM's CARD OF 'laws.FnExactSimplest'. -/
def fnExactSimplestUptoCard : Claim7 := { stood := { row := fnExactSimplestUptoRow, standIns := [], harness := (true, "4b5a3a75100818d92459d692c2c45fe0014f8fb8b36b9d93dcd6e6ce424d2d36"), looks := false }, kinds := [], alts := [], laidByText := true, laidKinds := [.data, .data, .data, .data, .pinned], laidTests := true, laidLooks := .later }
def FnExactSimplestUptoCardSaid : Prop := Claim7.holds Tryz.pinned (.plain (OpenSpec.upto fnExactSimplestSpec)) fnExactSimplestUptoCard
end Rows
end Go.Proofs.YtnhbmpnhijgpmaaGreatDoor
