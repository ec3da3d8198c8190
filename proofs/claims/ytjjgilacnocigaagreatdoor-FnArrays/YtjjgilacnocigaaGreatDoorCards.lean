/-
  DERIVED. GIVEN WITH THE SEED: THE CARDS: each row of YtjjgilacnocigaaGreatDoorRows.lean that lists a variable, with what it lists TIED to the program's text (the seventh form; the later family's looks); each row that meets fmt, with fmt's text TOLD by the authors' own Lean function (tested against real Go, not proved from fmt's source: count such statements apart). THE CARD IS WHAT COUNTS. Prove the row's statement (the work); the ties are given (YtjjgilacnocigaaGreatDoorTie.lean); close each card by the builder's one call (the guide's Derived/Test/ToyasCard.lean, 'card_holds'). Laid BY PROGRAM, IN A SANDBOX (cutbox-door.mjs). By AI agents, Wed Nov 11 2026. No macro, syntax, notation, axiom, sorry.
-/
import Derived.Test.YtjjgilacnocigaaGreatDoorRows
import GoSem.ClaimSeven
namespace Go.Proofs.YtjjgilacnocigaaGreatDoor
namespace Rows

/-- THE TIED CARD OF 'laws.FnArrays'. -/
def fnArraysCard : Claim7 := { stood := { row := fnArraysRow, standIns := [], harness := (true, "7af49ce594bd6c5b521a89312406b4f70e8305c438d0a620f3c32ea337bd11c1"), looks := true }, kinds := [], alts := [], laidByText := true, laidKinds := [.data, .data, .data, .data, .sentinel, .sentinel, .data, .data, .data, .pinned], laidTests := true, laidLooks := .later }
def FnArraysCardSaid : Prop := Claim7.holds Tryz.pinned (.plain (OpenSpec.ofChange fnArraysSpec)) fnArraysCard

/-- THE SECOND FORM's CARD OF 'laws.FnArrays'. -/
def fnArraysUptoCard : Claim7 := { stood := { row := fnArraysUptoRow, standIns := [], harness := (true, "7af49ce594bd6c5b521a89312406b4f70e8305c438d0a620f3c32ea337bd11c1"), looks := true }, kinds := [], alts := [], laidByText := true, laidKinds := [.data, .data, .data, .data, .sentinel, .sentinel, .data, .data, .data, .pinned], laidTests := true, laidLooks := .later }
def FnArraysUptoCardSaid : Prop := Claim7.holds Tryz.pinned (.plain (OpenSpec.upto fnArraysSpec)) fnArraysUptoCard
end Rows
end Go.Proofs.YtjjgilacnocigaaGreatDoor
