/-
  DERIVED. GIVEN WITH THE SEED: THE CARDS: each row of YtpjnglcojamfmaaGreatDoorRows.lean that lists a variable, with what it lists TIED to the program's text (the seventh form; the later family's looks); each row that meets fmt, with fmt's text TOLD by the authors' own Lean function (tested against real Go, not proved from fmt's source: count such statements apart). THE CARD IS WHAT COUNTS. Prove the row's statement (the work); the ties are given (YtpjnglcojamfmaaGreatDoorTie.lean); close each card by the builder's one call (the guide's Derived/Test/ToyasCard.lean, 'card_holds'). Laid BY PROGRAM, IN A SANDBOX (cutbox-door.mjs). By AI agents, Wed Nov 11 2026. No macro, syntax, notation, axiom, sorry.
-/
import Derived.Test.YtpjnglcojamfmaaGreatDoorRows
import GoSem.ClaimSeven
namespace Go.Proofs.YtpjnglcojamfmaaGreatDoor
namespace Rows

/-- THE TIED CARD OF 'laws.FnNumbers'. -/
def fnNumbersCard : Claim7 := { stood := { row := fnNumbersRow, standIns := [], harness := (true, "b5e316cdb9a61183bdf8fb25a461d44ffa7a0d5d0ba23d24bc15959a84093f43"), looks := false }, kinds := [], alts := [], laidByText := true, laidKinds := [.data, .data, .data, .data, .pinned], laidTests := true, laidLooks := .later }
def FnNumbersCardSaid : Prop := Claim7.holds Tryz.pinned (.plain (OpenSpec.ofChange fnNumbersSpec)) fnNumbersCard

/-- THE TIED CARD OF 'laws.FnSimplest'. -/
def fnSimplestCard : Claim7 := { stood := { row := fnSimplestRow, standIns := [], harness := (true, "b5e316cdb9a61183bdf8fb25a461d44ffa7a0d5d0ba23d24bc15959a84093f43"), looks := false }, kinds := [], alts := [], laidByText := true, laidKinds := [.data, .data, .data, .data, .pinned], laidTests := true, laidLooks := .later }
def FnSimplestCardSaid : Prop := Claim7.holds Tryz.pinned (.plain (OpenSpec.ofChange fnSimplestSpec)) fnSimplestCard

/-- THE TIED CARD OF 'laws.FnExactRatAdd'. -/
def fnExactRatAddCard : Claim7 := { stood := { row := fnExactRatAddRow, standIns := [], harness := (true, "b5e316cdb9a61183bdf8fb25a461d44ffa7a0d5d0ba23d24bc15959a84093f43"), looks := false }, kinds := [], alts := [], laidByText := true, laidKinds := [.data, .data, .data, .data, .pinned], laidTests := true, laidLooks := .later }
def FnExactRatAddCardSaid : Prop := Claim7.holds Tryz.pinned (.plain (OpenSpec.ofChange fnExactRatAddSpec)) fnExactRatAddCard

/-- THE TIED CARD OF 'laws.FnExactRatMul'. -/
def fnExactRatMulCard : Claim7 := { stood := { row := fnExactRatMulRow, standIns := [], harness := (true, "b5e316cdb9a61183bdf8fb25a461d44ffa7a0d5d0ba23d24bc15959a84093f43"), looks := false }, kinds := [], alts := [], laidByText := true, laidKinds := [.data, .data, .data, .data, .pinned], laidTests := true, laidLooks := .later }
def FnExactRatMulCardSaid : Prop := Claim7.holds Tryz.pinned (.plain (OpenSpec.ofChange fnExactRatMulSpec)) fnExactRatMulCard

/-- THE TIED CARD OF 'laws.FnExactRatDiv'. -/
def fnExactRatDivCard : Claim7 := { stood := { row := fnExactRatDivRow, standIns := [], harness := (true, "b5e316cdb9a61183bdf8fb25a461d44ffa7a0d5d0ba23d24bc15959a84093f43"), looks := false }, kinds := [], alts := [], laidByText := true, laidKinds := [.data, .data, .data, .data, .pinned], laidTests := true, laidLooks := .later }
def FnExactRatDivCardSaid : Prop := Claim7.holds Tryz.pinned (.plain (OpenSpec.ofChange fnExactRatDivSpec)) fnExactRatDivCard

/-- THE TIED CARD OF 'laws.FnExactRatCmp'. -/
def fnExactRatCmpCard : Claim7 := { stood := { row := fnExactRatCmpRow, standIns := [], harness := (true, "b5e316cdb9a61183bdf8fb25a461d44ffa7a0d5d0ba23d24bc15959a84093f43"), looks := false }, kinds := [], alts := [], laidByText := true, laidKinds := [.data, .data, .data, .data, .pinned], laidTests := true, laidLooks := .later }
def FnExactRatCmpCardSaid : Prop := Claim7.holds Tryz.pinned (.plain (OpenSpec.ofChange fnExactRatCmpSpec)) fnExactRatCmpCard

/-- THE TIED CARD OF 'laws.FnExactSimplest'. -/
def fnExactSimplestCard : Claim7 := { stood := { row := fnExactSimplestRow, standIns := [], harness := (true, "b5e316cdb9a61183bdf8fb25a461d44ffa7a0d5d0ba23d24bc15959a84093f43"), looks := false }, kinds := [], alts := [], laidByText := true, laidKinds := [.data, .data, .data, .data, .pinned], laidTests := true, laidLooks := .later }
def FnExactSimplestCardSaid : Prop := Claim7.holds Tryz.pinned (.plain (OpenSpec.ofChange fnExactSimplestSpec)) fnExactSimplestCard

/-- THE TIED CARD OF 'laws.FnExactRatFloor'. -/
def fnExactRatFloorCard : Claim7 := { stood := { row := fnExactRatFloorRow, standIns := [], harness := (true, "b5e316cdb9a61183bdf8fb25a461d44ffa7a0d5d0ba23d24bc15959a84093f43"), looks := false }, kinds := [], alts := [], laidByText := true, laidKinds := [.data, .data, .data, .data, .pinned], laidTests := true, laidLooks := .later }
def FnExactRatFloorCardSaid : Prop := Claim7.holds Tryz.pinned (.plain (OpenSpec.ofChange fnExactRatFloorSpec)) fnExactRatFloorCard

/-- THE SECOND FORM's CARD OF 'laws.FnNumbers'. -/
def fnNumbersUptoCard : Claim7 := { stood := { row := fnNumbersUptoRow, standIns := [], harness := (true, "b5e316cdb9a61183bdf8fb25a461d44ffa7a0d5d0ba23d24bc15959a84093f43"), looks := false }, kinds := [], alts := [], laidByText := true, laidKinds := [.data, .data, .data, .data, .pinned], laidTests := true, laidLooks := .later }
def FnNumbersUptoCardSaid : Prop := Claim7.holds Tryz.pinned (.plain (OpenSpec.upto fnNumbersSpec)) fnNumbersUptoCard

/-- THE SECOND FORM's CARD OF 'laws.FnSimplest'. -/
def fnSimplestUptoCard : Claim7 := { stood := { row := fnSimplestUptoRow, standIns := [], harness := (true, "b5e316cdb9a61183bdf8fb25a461d44ffa7a0d5d0ba23d24bc15959a84093f43"), looks := false }, kinds := [], alts := [], laidByText := true, laidKinds := [.data, .data, .data, .data, .pinned], laidTests := true, laidLooks := .later }
def FnSimplestUptoCardSaid : Prop := Claim7.holds Tryz.pinned (.plain (OpenSpec.upto fnSimplestSpec)) fnSimplestUptoCard

/-- THE SECOND FORM's CARD OF 'laws.FnExactRatAdd'. -/
def fnExactRatAddUptoCard : Claim7 := { stood := { row := fnExactRatAddUptoRow, standIns := [], harness := (true, "b5e316cdb9a61183bdf8fb25a461d44ffa7a0d5d0ba23d24bc15959a84093f43"), looks := false }, kinds := [], alts := [], laidByText := true, laidKinds := [.data, .data, .data, .data, .pinned], laidTests := true, laidLooks := .later }
def FnExactRatAddUptoCardSaid : Prop := Claim7.holds Tryz.pinned (.plain (OpenSpec.upto fnExactRatAddSpec)) fnExactRatAddUptoCard

/-- THE SECOND FORM's CARD OF 'laws.FnExactRatMul'. -/
def fnExactRatMulUptoCard : Claim7 := { stood := { row := fnExactRatMulUptoRow, standIns := [], harness := (true, "b5e316cdb9a61183bdf8fb25a461d44ffa7a0d5d0ba23d24bc15959a84093f43"), looks := false }, kinds := [], alts := [], laidByText := true, laidKinds := [.data, .data, .data, .data, .pinned], laidTests := true, laidLooks := .later }
def FnExactRatMulUptoCardSaid : Prop := Claim7.holds Tryz.pinned (.plain (OpenSpec.upto fnExactRatMulSpec)) fnExactRatMulUptoCard

/-- THE SECOND FORM's CARD OF 'laws.FnExactRatDiv'. -/
def fnExactRatDivUptoCard : Claim7 := { stood := { row := fnExactRatDivUptoRow, standIns := [], harness := (true, "b5e316cdb9a61183bdf8fb25a461d44ffa7a0d5d0ba23d24bc15959a84093f43"), looks := false }, kinds := [], alts := [], laidByText := true, laidKinds := [.data, .data, .data, .data, .pinned], laidTests := true, laidLooks := .later }
def FnExactRatDivUptoCardSaid : Prop := Claim7.holds Tryz.pinned (.plain (OpenSpec.upto fnExactRatDivSpec)) fnExactRatDivUptoCard

/-- THE SECOND FORM's CARD OF 'laws.FnExactRatCmp'. -/
def fnExactRatCmpUptoCard : Claim7 := { stood := { row := fnExactRatCmpUptoRow, standIns := [], harness := (true, "b5e316cdb9a61183bdf8fb25a461d44ffa7a0d5d0ba23d24bc15959a84093f43"), looks := false }, kinds := [], alts := [], laidByText := true, laidKinds := [.data, .data, .data, .data, .pinned], laidTests := true, laidLooks := .later }
def FnExactRatCmpUptoCardSaid : Prop := Claim7.holds Tryz.pinned (.plain (OpenSpec.upto fnExactRatCmpSpec)) fnExactRatCmpUptoCard

/-- THE SECOND FORM's CARD OF 'laws.FnExactSimplest'. -/
def fnExactSimplestUptoCard : Claim7 := { stood := { row := fnExactSimplestUptoRow, standIns := [], harness := (true, "b5e316cdb9a61183bdf8fb25a461d44ffa7a0d5d0ba23d24bc15959a84093f43"), looks := false }, kinds := [], alts := [], laidByText := true, laidKinds := [.data, .data, .data, .data, .pinned], laidTests := true, laidLooks := .later }
def FnExactSimplestUptoCardSaid : Prop := Claim7.holds Tryz.pinned (.plain (OpenSpec.upto fnExactSimplestSpec)) fnExactSimplestUptoCard

/-- THE SECOND FORM's CARD OF 'laws.FnExactRatFloor'. -/
def fnExactRatFloorUptoCard : Claim7 := { stood := { row := fnExactRatFloorUptoRow, standIns := [], harness := (true, "b5e316cdb9a61183bdf8fb25a461d44ffa7a0d5d0ba23d24bc15959a84093f43"), looks := false }, kinds := [], alts := [], laidByText := true, laidKinds := [.data, .data, .data, .data, .pinned], laidTests := true, laidLooks := .later }
def FnExactRatFloorUptoCardSaid : Prop := Claim7.holds Tryz.pinned (.plain (OpenSpec.upto fnExactRatFloorSpec)) fnExactRatFloorUptoCard
end Rows
end Go.Proofs.YtpjnglcojamfmaaGreatDoor
