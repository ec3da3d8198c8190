/-
  DERIVED. GIVEN WITH THE SEED: THE CARDS: each row of YtjjbpeccleldnaaDoorRows.lean that lists a variable, with what it lists TIED to the program's text (the seventh form; the later family's looks); each row that meets fmt, with fmt's text TOLD by the authors' own Lean function (tested against real Go, not proved from fmt's source: count such statements apart). THE CARD IS WHAT COUNTS. Prove the row's statement (the work); the ties are given (YtjjbpeccleldnaaDoorTie.lean); close each card by the builder's one call (the guide's Derived/Test/ToyasCard.lean, 'card_holds'). Laid BY PROGRAM, IN A SANDBOX (cutbox-door.mjs). By AI agents, Wed Nov 11 2026. No macro, syntax, notation, axiom, sorry.
-/
import Derived.Test.YtjjbpeccleldnaaDoorRows
import GoSem.ClaimSeven
namespace Go.Proofs.YtjjbpeccleldnaaDoor
namespace Rows

/-- THE TIED CARD OF 'laws.FnExactIntAdd'. -/
def fnExactIntAddCard : Claim7 := { stood := { row := fnExactIntAddRow, standIns := [], harness := (true, "32cb7260345ff46e376f2db068b59b058d069412a8e05c597fe9280a7b2e59bd"), looks := false }, kinds := [], alts := [], laidByText := true, laidKinds := [.data, .data, .data, .pinned], laidTests := true, laidLooks := .later }
def FnExactIntAddCardSaid : Prop := Claim7.holds Tryd.pinned (.plain (OpenSpec.ofChange fnExactIntAddSpec)) fnExactIntAddCard

/-- THE TIED CARD OF 'laws.FnExactIntSub'. -/
def fnExactIntSubCard : Claim7 := { stood := { row := fnExactIntSubRow, standIns := [], harness := (true, "32cb7260345ff46e376f2db068b59b058d069412a8e05c597fe9280a7b2e59bd"), looks := false }, kinds := [], alts := [], laidByText := true, laidKinds := [.data, .data, .data, .pinned], laidTests := true, laidLooks := .later }
def FnExactIntSubCardSaid : Prop := Claim7.holds Tryd.pinned (.plain (OpenSpec.ofChange fnExactIntSubSpec)) fnExactIntSubCard

/-- THE TIED CARD OF 'laws.FnExactIntMul'. -/
def fnExactIntMulCard : Claim7 := { stood := { row := fnExactIntMulRow, standIns := [], harness := (true, "32cb7260345ff46e376f2db068b59b058d069412a8e05c597fe9280a7b2e59bd"), looks := false }, kinds := [], alts := [], laidByText := true, laidKinds := [.data, .data, .data, .pinned], laidTests := true, laidLooks := .later }
def FnExactIntMulCardSaid : Prop := Claim7.holds Tryd.pinned (.plain (OpenSpec.ofChange fnExactIntMulSpec)) fnExactIntMulCard

/-- THE TIED CARD OF 'laws.FnExactIntDiv'. -/
def fnExactIntDivCard : Claim7 := { stood := { row := fnExactIntDivRow, standIns := [], harness := (true, "32cb7260345ff46e376f2db068b59b058d069412a8e05c597fe9280a7b2e59bd"), looks := false }, kinds := [], alts := [], laidByText := true, laidKinds := [.data, .data, .data, .pinned], laidTests := true, laidLooks := .later }
def FnExactIntDivCardSaid : Prop := Claim7.holds Tryd.pinned (.plain (OpenSpec.ofChange fnExactIntDivSpec)) fnExactIntDivCard

/-- THE TIED CARD OF 'laws.FnExactIntGcd'. -/
def fnExactIntGcdCard : Claim7 := { stood := { row := fnExactIntGcdRow, standIns := [], harness := (true, "32cb7260345ff46e376f2db068b59b058d069412a8e05c597fe9280a7b2e59bd"), looks := false }, kinds := [], alts := [], laidByText := true, laidKinds := [.data, .data, .data, .pinned], laidTests := true, laidLooks := .later }
def FnExactIntGcdCardSaid : Prop := Claim7.holds Tryd.pinned (.plain (OpenSpec.ofChange fnExactIntGcdSpec)) fnExactIntGcdCard

/-- THE TIED CARD OF 'laws.FnExactIntCmp'. -/
def fnExactIntCmpCard : Claim7 := { stood := { row := fnExactIntCmpRow, standIns := [], harness := (true, "32cb7260345ff46e376f2db068b59b058d069412a8e05c597fe9280a7b2e59bd"), looks := false }, kinds := [], alts := [], laidByText := true, laidKinds := [.data], laidTests := true, laidLooks := .later }
def FnExactIntCmpCardSaid : Prop := Claim7.holds Tryd.pinned (.plain (OpenSpec.ofChange fnExactIntCmpSpec)) fnExactIntCmpCard

/-- THE TIED CARD OF 'laws.FnExactIntOf'. -/
def fnExactIntOfCard : Claim7 := { stood := { row := fnExactIntOfRow, standIns := [], harness := (true, "32cb7260345ff46e376f2db068b59b058d069412a8e05c597fe9280a7b2e59bd"), looks := false }, kinds := [], alts := [], laidByText := true, laidKinds := [.data, .data, .pinned], laidTests := true, laidLooks := .later }
def FnExactIntOfCardSaid : Prop := Claim7.holds Tryd.pinned (.plain (OpenSpec.ofChange fnExactIntOfSpec)) fnExactIntOfCard

/-- THE SECOND FORM's CARD OF 'laws.FnExactIntAdd'. -/
def fnExactIntAddUptoCard : Claim7 := { stood := { row := fnExactIntAddUptoRow, standIns := [], harness := (true, "32cb7260345ff46e376f2db068b59b058d069412a8e05c597fe9280a7b2e59bd"), looks := false }, kinds := [], alts := [], laidByText := true, laidKinds := [.data, .data, .data, .pinned], laidTests := true, laidLooks := .later }
def FnExactIntAddUptoCardSaid : Prop := Claim7.holds Tryd.pinned (.plain (OpenSpec.upto fnExactIntAddSpec)) fnExactIntAddUptoCard

/-- THE SECOND FORM's CARD OF 'laws.FnExactIntSub'. -/
def fnExactIntSubUptoCard : Claim7 := { stood := { row := fnExactIntSubUptoRow, standIns := [], harness := (true, "32cb7260345ff46e376f2db068b59b058d069412a8e05c597fe9280a7b2e59bd"), looks := false }, kinds := [], alts := [], laidByText := true, laidKinds := [.data, .data, .data, .pinned], laidTests := true, laidLooks := .later }
def FnExactIntSubUptoCardSaid : Prop := Claim7.holds Tryd.pinned (.plain (OpenSpec.upto fnExactIntSubSpec)) fnExactIntSubUptoCard

/-- THE SECOND FORM's CARD OF 'laws.FnExactIntMul'. -/
def fnExactIntMulUptoCard : Claim7 := { stood := { row := fnExactIntMulUptoRow, standIns := [], harness := (true, "32cb7260345ff46e376f2db068b59b058d069412a8e05c597fe9280a7b2e59bd"), looks := false }, kinds := [], alts := [], laidByText := true, laidKinds := [.data, .data, .data, .pinned], laidTests := true, laidLooks := .later }
def FnExactIntMulUptoCardSaid : Prop := Claim7.holds Tryd.pinned (.plain (OpenSpec.upto fnExactIntMulSpec)) fnExactIntMulUptoCard

/-- THE SECOND FORM's CARD OF 'laws.FnExactIntDiv'. -/
def fnExactIntDivUptoCard : Claim7 := { stood := { row := fnExactIntDivUptoRow, standIns := [], harness := (true, "32cb7260345ff46e376f2db068b59b058d069412a8e05c597fe9280a7b2e59bd"), looks := false }, kinds := [], alts := [], laidByText := true, laidKinds := [.data, .data, .data, .pinned], laidTests := true, laidLooks := .later }
def FnExactIntDivUptoCardSaid : Prop := Claim7.holds Tryd.pinned (.plain (OpenSpec.upto fnExactIntDivSpec)) fnExactIntDivUptoCard

/-- THE SECOND FORM's CARD OF 'laws.FnExactIntGcd'. -/
def fnExactIntGcdUptoCard : Claim7 := { stood := { row := fnExactIntGcdUptoRow, standIns := [], harness := (true, "32cb7260345ff46e376f2db068b59b058d069412a8e05c597fe9280a7b2e59bd"), looks := false }, kinds := [], alts := [], laidByText := true, laidKinds := [.data, .data, .data, .pinned], laidTests := true, laidLooks := .later }
def FnExactIntGcdUptoCardSaid : Prop := Claim7.holds Tryd.pinned (.plain (OpenSpec.upto fnExactIntGcdSpec)) fnExactIntGcdUptoCard

/-- THE SECOND FORM's CARD OF 'laws.FnExactIntCmp'. -/
def fnExactIntCmpUptoCard : Claim7 := { stood := { row := fnExactIntCmpUptoRow, standIns := [], harness := (true, "32cb7260345ff46e376f2db068b59b058d069412a8e05c597fe9280a7b2e59bd"), looks := false }, kinds := [], alts := [], laidByText := true, laidKinds := [.data], laidTests := true, laidLooks := .later }
def FnExactIntCmpUptoCardSaid : Prop := Claim7.holds Tryd.pinned (.plain (OpenSpec.upto fnExactIntCmpSpec)) fnExactIntCmpUptoCard

/-- THE SECOND FORM's CARD OF 'laws.FnExactIntOf'. -/
def fnExactIntOfUptoCard : Claim7 := { stood := { row := fnExactIntOfUptoRow, standIns := [], harness := (true, "32cb7260345ff46e376f2db068b59b058d069412a8e05c597fe9280a7b2e59bd"), looks := false }, kinds := [], alts := [], laidByText := true, laidKinds := [.data, .data, .pinned], laidTests := true, laidLooks := .later }
def FnExactIntOfUptoCardSaid : Prop := Claim7.holds Tryd.pinned (.plain (OpenSpec.upto fnExactIntOfSpec)) fnExactIntOfUptoCard
end Rows
end Go.Proofs.YtjjbpeccleldnaaDoor
