/-
  DERIVED. GIVEN WITH THE SEED: THE CARDS: each row of YtdmdmgfjpomdbaaGreatDoorRows.lean that lists a variable, with what it lists TIED to the program's text (the seventh form; the later family's looks); each row that meets fmt, with fmt's text TOLD by the authors' own Lean function (tested against real Go, not proved from fmt's source: count such statements apart). THE CARD IS WHAT COUNTS. Prove the row's statement (the work); the ties are given (YtdmdmgfjpomdbaaGreatDoorTie.lean); close each card by the builder's one call (the guide's Derived/Test/ToyasCard.lean, 'card_holds'). Laid BY PROGRAM, IN A SANDBOX (cutbox-door.mjs). By AI agents, Wed Nov 11 2026. No macro, syntax, notation, axiom, sorry.
-/
import Derived.Test.YtdmdmgfjpomdbaaGreatDoorRows
import GoSem.ClaimSeven
namespace Go.Proofs.YtdmdmgfjpomdbaaGreatDoor
namespace Rows

/-- THE TIED CARD OF 'laws.FnExactAddSort'. -/
def fnExactAddSortCard : Claim7 := { stood := { row := fnExactAddSortRow, standIns := [], harness := (true, "6bdee616fa47012224ee952223e0c2371fcb038bc419fb768dd5df4f1bc88561"), looks := true }, kinds := [], alts := [], laidByText := true, laidKinds := [.data, .data, .data, .data, .sentinel, .sentinel, .data, .data, .data, .data, .pinned], laidTests := true, laidLooks := .later }
def FnExactAddSortCardSaid : Prop := Claim7.holds Tryz.pinned (.plain (OpenSpec.ofChange fnExactAddSortSpec)) fnExactAddSortCard

/-- THE TIED CARD OF 'laws.FnExactAddFun'. -/
def fnExactAddFunCard : Claim7 := { stood := { row := fnExactAddFunRow, standIns := [], harness := (true, "6bdee616fa47012224ee952223e0c2371fcb038bc419fb768dd5df4f1bc88561"), looks := true }, kinds := [], alts := [], laidByText := true, laidKinds := [.data, .data, .data, .data, .sentinel, .sentinel, .data, .data, .data, .data, .pinned], laidTests := true, laidLooks := .later }
def FnExactAddFunCardSaid : Prop := Claim7.holds Tryz.pinned (.plain (OpenSpec.ofChange fnExactAddFunSpec)) fnExactAddFunCard

/-- THE TIED CARD OF 'laws.FnExactAddTerm'. -/
def fnExactAddTermCard : Claim7 := { stood := { row := fnExactAddTermRow, standIns := [], harness := (true, "6bdee616fa47012224ee952223e0c2371fcb038bc419fb768dd5df4f1bc88561"), looks := true }, kinds := [], alts := [], laidByText := true, laidKinds := [.data, .data, .data, .data, .sentinel, .sentinel, .data, .data, .data, .data, .pinned], laidTests := true, laidLooks := .later }
def FnExactAddTermCardSaid : Prop := Claim7.holds Tryz.pinned (.plain (OpenSpec.ofChange fnExactAddTermSpec)) fnExactAddTermCard

/-- THE SECOND FORM's CARD OF 'laws.FnExactAddSort'. -/
def fnExactAddSortUptoCard : Claim7 := { stood := { row := fnExactAddSortUptoRow, standIns := [], harness := (true, "6bdee616fa47012224ee952223e0c2371fcb038bc419fb768dd5df4f1bc88561"), looks := true }, kinds := [], alts := [], laidByText := true, laidKinds := [.data, .data, .data, .data, .sentinel, .sentinel, .data, .data, .data, .data, .pinned], laidTests := true, laidLooks := .later }
def FnExactAddSortUptoCardSaid : Prop := Claim7.holds Tryz.pinned (.plain (OpenSpec.upto fnExactAddSortSpec)) fnExactAddSortUptoCard

/-- THE SECOND FORM's CARD OF 'laws.FnExactAddFun'. -/
def fnExactAddFunUptoCard : Claim7 := { stood := { row := fnExactAddFunUptoRow, standIns := [], harness := (true, "6bdee616fa47012224ee952223e0c2371fcb038bc419fb768dd5df4f1bc88561"), looks := true }, kinds := [], alts := [], laidByText := true, laidKinds := [.data, .data, .data, .data, .sentinel, .sentinel, .data, .data, .data, .data, .pinned], laidTests := true, laidLooks := .later }
def FnExactAddFunUptoCardSaid : Prop := Claim7.holds Tryz.pinned (.plain (OpenSpec.upto fnExactAddFunSpec)) fnExactAddFunUptoCard

/-- THE SECOND FORM's CARD OF 'laws.FnExactAddTerm'. -/
def fnExactAddTermUptoCard : Claim7 := { stood := { row := fnExactAddTermUptoRow, standIns := [], harness := (true, "6bdee616fa47012224ee952223e0c2371fcb038bc419fb768dd5df4f1bc88561"), looks := true }, kinds := [], alts := [], laidByText := true, laidKinds := [.data, .data, .data, .data, .sentinel, .sentinel, .data, .data, .data, .data, .pinned], laidTests := true, laidLooks := .later }
def FnExactAddTermUptoCardSaid : Prop := Claim7.holds Tryz.pinned (.plain (OpenSpec.upto fnExactAddTermSpec)) fnExactAddTermUptoCard
end Rows
end Go.Proofs.YtdmdmgfjpomdbaaGreatDoor
