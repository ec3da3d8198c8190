/-
  DERIVED. GIVEN WITH THE SEED: THE CARDS: each row of YtfclfbpjjlinhaaGreatDoorRows.lean that lists a variable, with what it lists TIED to the program's text (the seventh form; the later family's looks); each row that meets fmt, with fmt's text TOLD by the authors' own Lean function (tested against real Go, not proved from fmt's source: count such statements apart). THE CARD IS WHAT COUNTS. Prove the row's statement (the work); the ties are given (YtfclfbpjjlinhaaGreatDoorTie.lean); close each card by the builder's one call (the guide's Derived/Test/ToyasCard.lean, 'card_holds'). Laid BY PROGRAM, IN A SANDBOX (cutbox-door.mjs). By AI agents, Wed Nov 11 2026. No macro, syntax, notation, axiom, sorry.
-/
import Derived.Test.YtfclfbpjjlinhaaGreatDoorRows
import GoSem.ClaimSeven
namespace Go.Proofs.YtfclfbpjjlinhaaGreatDoor
namespace Rows

/-- THE TIED CARD OF 'laws.FnExactTighten'. -/
def fnExactTightenCard : Claim7 := { stood := { row := fnExactTightenRow, standIns := [], harness := (true, "032d81f75495777cc4cb94b5285f624b9890ef28076a3ac238fecc682d92526e"), looks := false }, kinds := [], alts := [], laidByText := true, laidKinds := [.data, .data, .data, .data, .pinned], laidTests := true, laidLooks := .later }
def FnExactTightenCardSaid : Prop := Claim7.holds Tryz.pinned (.plain (OpenSpec.ofChange fnExactTightenSpec)) fnExactTightenCard

/-- THE TIED CARD OF 'laws.FnExactCheckTree'. -/
def fnExactCheckTreeCard : Claim7 := { stood := { row := fnExactCheckTreeRow, standIns := [], harness := (true, "032d81f75495777cc4cb94b5285f624b9890ef28076a3ac238fecc682d92526e"), looks := false }, kinds := [], alts := [], laidByText := true, laidKinds := [.data, .data, .data, .data, .pinned], laidTests := true, laidLooks := .later }
def FnExactCheckTreeCardSaid : Prop := Claim7.holds Tryz.pinned (.plain (OpenSpec.ofChange fnExactCheckTreeSpec)) fnExactCheckTreeCard

/-- THE SECOND FORM's CARD OF 'laws.FnExactTighten'. -/
def fnExactTightenUptoCard : Claim7 := { stood := { row := fnExactTightenUptoRow, standIns := [], harness := (true, "032d81f75495777cc4cb94b5285f624b9890ef28076a3ac238fecc682d92526e"), looks := false }, kinds := [], alts := [], laidByText := true, laidKinds := [.data, .data, .data, .data, .pinned], laidTests := true, laidLooks := .later }
def FnExactTightenUptoCardSaid : Prop := Claim7.holds Tryz.pinned (.plain (OpenSpec.upto fnExactTightenSpec)) fnExactTightenUptoCard

/-- THE SECOND FORM's CARD OF 'laws.FnExactCheckTree'. -/
def fnExactCheckTreeUptoCard : Claim7 := { stood := { row := fnExactCheckTreeUptoRow, standIns := [], harness := (true, "032d81f75495777cc4cb94b5285f624b9890ef28076a3ac238fecc682d92526e"), looks := false }, kinds := [], alts := [], laidByText := true, laidKinds := [.data, .data, .data, .data, .pinned], laidTests := true, laidLooks := .later }
def FnExactCheckTreeUptoCardSaid : Prop := Claim7.holds Tryz.pinned (.plain (OpenSpec.upto fnExactCheckTreeSpec)) fnExactCheckTreeUptoCard
end Rows
end Go.Proofs.YtfclfbpjjlinhaaGreatDoor
