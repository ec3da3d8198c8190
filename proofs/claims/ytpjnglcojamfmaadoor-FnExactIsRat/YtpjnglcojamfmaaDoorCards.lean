/-
  DERIVED. GIVEN WITH THE SEED: THE CARDS: each row of YtpjnglcojamfmaaDoorRows.lean that lists a variable, with what it lists TIED to the program's text (the seventh form; the later family's looks); each row that meets fmt, with fmt's text TOLD by the authors' own Lean function (tested against real Go, not proved from fmt's source: count such statements apart). THE CARD IS WHAT COUNTS. Prove the row's statement (the work); the ties are given (YtpjnglcojamfmaaDoorTie.lean); close each card by the builder's one call (the guide's Derived/Test/ToyasCard.lean, 'card_holds'). Laid BY PROGRAM, IN A SANDBOX (cutbox-door.mjs). By AI agents, Wed Nov 11 2026. No macro, syntax, notation, axiom, sorry.
-/
import Derived.Test.YtpjnglcojamfmaaDoorRows
import GoSem.ClaimSeven
namespace Go.Proofs.YtpjnglcojamfmaaDoor
namespace Rows

/-- THE TIED CARD OF 'laws.FnExactIsRat'. -/
def fnExactIsRatCard : Claim7 := { stood := { row := fnExactIsRatRow, standIns := [], harness := (true, "d89d8015a49b753be813ba164ec49fcee9af60f5d7dd4be153b4c61ab559b233"), looks := false }, kinds := [], alts := [], laidByText := true, laidKinds := [.data, .data, .data, .data, .pinned], laidTests := true, laidLooks := .later }
def FnExactIsRatCardSaid : Prop := Claim7.holds Tryd.pinned (.plain (OpenSpec.ofChange fnExactIsRatSpec)) fnExactIsRatCard

/-- THE TIED CARD OF 'laws.FnExactRatOf'. -/
def fnExactRatOfCard : Claim7 := { stood := { row := fnExactRatOfRow, standIns := [], harness := (true, "d89d8015a49b753be813ba164ec49fcee9af60f5d7dd4be153b4c61ab559b233"), looks := false }, kinds := [], alts := [], laidByText := true, laidKinds := [.data, .data, .data, .data, .pinned], laidTests := true, laidLooks := .later }
def FnExactRatOfCardSaid : Prop := Claim7.holds Tryd.pinned (.plain (OpenSpec.ofChange fnExactRatOfSpec)) fnExactRatOfCard

/-- THE SECOND FORM's CARD OF 'laws.FnExactIsRat'. -/
def fnExactIsRatUptoCard : Claim7 := { stood := { row := fnExactIsRatUptoRow, standIns := [], harness := (true, "d89d8015a49b753be813ba164ec49fcee9af60f5d7dd4be153b4c61ab559b233"), looks := false }, kinds := [], alts := [], laidByText := true, laidKinds := [.data, .data, .data, .data, .pinned], laidTests := true, laidLooks := .later }
def FnExactIsRatUptoCardSaid : Prop := Claim7.holds Tryd.pinned (.plain (OpenSpec.upto fnExactIsRatSpec)) fnExactIsRatUptoCard

/-- THE SECOND FORM's CARD OF 'laws.FnExactRatOf'. -/
def fnExactRatOfUptoCard : Claim7 := { stood := { row := fnExactRatOfUptoRow, standIns := [], harness := (true, "d89d8015a49b753be813ba164ec49fcee9af60f5d7dd4be153b4c61ab559b233"), looks := false }, kinds := [], alts := [], laidByText := true, laidKinds := [.data, .data, .data, .data, .pinned], laidTests := true, laidLooks := .later }
def FnExactRatOfUptoCardSaid : Prop := Claim7.holds Tryd.pinned (.plain (OpenSpec.upto fnExactRatOfSpec)) fnExactRatOfUptoCard
end Rows
end Go.Proofs.YtpjnglcojamfmaaDoor
