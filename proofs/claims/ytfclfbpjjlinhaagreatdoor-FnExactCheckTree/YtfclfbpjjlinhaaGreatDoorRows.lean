/-
  NARROWER THAN 'FOR EVERY INPUT', by the rows' own cells (each row's printed sentence says how): FnExactTighten: laid · FnExactCheckTree: laid.
  DERIVED. THE GIVEN ROWS OF THIS SEAT. 2 by the template 'for every input the law returns true; each argument reads behind the call as it read before'; 0 by the template 'total and deterministic' (their statements: YtfclfbpjjlinhaaGreatDoorTotals.lean).
  GIVEN WITH THE SEED: the statements are not yours to turn. If you find one false, say at which input.
  Laid BY PROGRAM, IN A SANDBOX (cutbox-rows.mjs): the forced cells as the released guide's own fill.sh prints them over the translation 683e52bd7ff3fb2e… (all of the seat's roots in one cut). By AI agents, Wed Nov 11 2026. No macro, syntax, notation, axiom, sorry.
-/
import Derived.Test.YtfclfbpjjlinhaaGreatDoorChecked
import GoSem.PinnedTables
import GoSem.Claim
import GoSem.ClaimJoined
import GoSem.ClaimMapViews
import Derived.JoinedTies
import Derived.KernelRfl
namespace Go.Proofs.YtfclfbpjjlinhaaGreatDoor
/- THE CELL 'sum', in the pinned program and in every row, IS THE sha256 OF THE DUMP (.gsa) THAT YtfclfbpjjlinhaaGreatDoorProg.lean LOADS. Nothing in Lean hashes anything: it is a label: what it is worth is what the hold of that sum in a sandbox is worth. -/
noncomputable def Tryz.pinned : Pinned := { name := "ytfclfbpjjlinhaagreatdoor", sum := "683e52bd7ff3fb2eef5ab63e1ffb444cae46777cc6cb40a9176fe99207152a5b", checked := Tryz.checked }
namespace Rows
def none {H : Type} : Left H := { results := [], args := [] }

/- WHAT THE LISTED PACKAGE-LEVEL VARIABLES READ AS WHEN THE CALL BEGINS. Each datum BY PROGRAM (the guide's laid-datum.mjs) off the statement by which the dump's own 'gosem.cut.vars' lays the variable. In a bare row this is a premise. The card (YtfclfbpjjlinhaaGreatDoorCards.lean) ties it to the program's text. -/
def laid_unicode_utf8_acceptRanges {H : Type} : DataW H := .agg [.agg [.lit (.int .u8 128), .lit (.int .u8 191)], .agg [.lit (.int .u8 160), .lit (.int .u8 191)], .agg [.lit (.int .u8 128), .lit (.int .u8 159)], .agg [.lit (.int .u8 144), .lit (.int .u8 191)], .agg [.lit (.int .u8 128), .lit (.int .u8 143)], .agg [.lit (.int .u8 0), .lit (.int .u8 0)], .agg [.lit (.int .u8 0), .lit (.int .u8 0)], .agg [.lit (.int .u8 0), .lit (.int .u8 0)], .agg [.lit (.int .u8 0), .lit (.int .u8 0)], .agg [.lit (.int .u8 0), .lit (.int .u8 0)], .agg [.lit (.int .u8 0), .lit (.int .u8 0)], .agg [.lit (.int .u8 0), .lit (.int .u8 0)], .agg [.lit (.int .u8 0), .lit (.int .u8 0)], .agg [.lit (.int .u8 0), .lit (.int .u8 0)], .agg [.lit (.int .u8 0), .lit (.int .u8 0)], .agg [.lit (.int .u8 0), .lit (.int .u8 0)]]
def laid_loop_example_g00007_impl_limbTens {H : Type} : DataW H := .agg [.lit (.int .u32 100000000), .lit (.int .u32 10000000), .lit (.int .u32 1000000), .lit (.int .u32 100000), .lit (.int .u32 10000), .lit (.int .u32 1000), .lit (.int .u32 100), .lit (.int .u32 10), .lit (.int .u32 1)]
def laid_loop_example_g00007_impl_signPairs {H : Type} : DataW H := .agg [.agg [.agg [.lit (.int .i64 0), .lit (.bool false), .lit (.int .i64 0)], .agg [.lit (.int .i64 1), .lit (.bool true), .lit (.int .i64 1)]], .agg [.agg [.lit (.int .i64 1), .lit (.bool true), .lit (.int .i64 (-1))], .agg [.lit (.int .i64 0), .lit (.bool false), .lit (.int .i64 0)]]]
def laid_loop_example_g00007_impl_noSteps {H : Type} : DataW H := .agg [.agg [.lit (.int .i64 1), .lit (.int .i64 0)], .agg [.lit (.int .i64 0), .lit (.int .i64 1)]]
/-- One of Go's own tables, pinned by name: the form's constant. -/
def laid_unicode_utf8_first : DataW Unit := Go.Pinned.utf8First

/-- 'laws.FnExactTighten': WHATEVER THE INPUT: true; the input reads as it did. -/
def fnExactTightenSpec : ChangeSpec := { name := "fnExactTighten", vars := ["loop.example/g00007/impl.noSteps", "loop.example/g00007/impl.signPairs", "loop.example/g00007/impl.limbTens"], fn := fun _ => fun
  | [d1, d2, d3, g1, g2, g3] => { results := [.lit (.bool true)], args := [d1, d2, d3], vars := [g1, g2, g3] }
  | _ => none }
def fnExactTightenRow : OpenClaim := { program := "ytfclfbpjjlinhaagreatdoor", sum := "683e52bd7ff3fb2eef5ab63e1ffb444cae46777cc6cb40a9176fe99207152a5b", func := "loop.example/g00007/laws.FnExactTighten", spec := "fnExactTighten", inPlace := ["internal/bytealg.IndexByteString", "internal/bytealg.IndexString"], unfollowed := true, recurses := true, named := ["loop.example/g00007/impl.noSteps", "loop.example/g00007/impl.signPairs", "loop.example/g00007/impl.limbTens", "unicode/utf8.first", "unicode/utf8.acceptRanges", "internal/bytealg.MaxLen"], apart := false, laid := [("unicode/utf8.acceptRanges", laid_unicode_utf8_acceptRanges), ("loop.example/g00007/impl.limbTens", laid_loop_example_g00007_impl_limbTens), ("loop.example/g00007/impl.signPairs", laid_loop_example_g00007_impl_signPairs), ("loop.example/g00007/impl.noSteps", laid_loop_example_g00007_impl_noSteps), ("unicode/utf8.first", laid_unicode_utf8_first)] }
def FnExactTightenSaid : Prop := fnExactTightenRow.holds Tryz.pinned (OpenSpec.ofChange fnExactTightenSpec)

/-- ITS FALSE NEIGHBOUR: 'it returns false'. Refute it at one input. -/
def fnExactTightenWrong : ChangeSpec := { name := "fnExactTighten", vars := ["loop.example/g00007/impl.noSteps", "loop.example/g00007/impl.signPairs", "loop.example/g00007/impl.limbTens"], fn := fun _ => fun
  | [d1, d2, d3, g1, g2, g3] => { results := [.lit (.bool false)], args := [d1, d2, d3], vars := [g1, g2, g3] }
  | _ => none }
def FnExactTightenWrongFalsely : Prop := fnExactTightenRow.holds Tryz.pinned (OpenSpec.ofChange fnExactTightenWrong)

/-- 'laws.FnExactCheckTree': WHATEVER THE INPUT: true; the input reads as it did. -/
def fnExactCheckTreeSpec : ChangeSpec := { name := "fnExactCheckTree", vars := ["loop.example/g00007/impl.noSteps", "loop.example/g00007/impl.signPairs", "loop.example/g00007/impl.limbTens"], fn := fun _ => fun
  | [d1, d2, d3, d4, g1, g2, g3] => { results := [.lit (.bool true)], args := [d1, d2, d3, d4], vars := [g1, g2, g3] }
  | _ => none }
def fnExactCheckTreeRow : OpenClaim := { program := "ytfclfbpjjlinhaagreatdoor", sum := "683e52bd7ff3fb2eef5ab63e1ffb444cae46777cc6cb40a9176fe99207152a5b", func := "loop.example/g00007/laws.FnExactCheckTree", spec := "fnExactCheckTree", inPlace := ["internal/bytealg.IndexByteString", "internal/bytealg.IndexString"], unfollowed := true, recurses := true, named := ["loop.example/g00007/impl.noSteps", "loop.example/g00007/impl.signPairs", "loop.example/g00007/impl.limbTens", "unicode/utf8.first", "unicode/utf8.acceptRanges", "internal/bytealg.MaxLen"], apart := false, laid := [("unicode/utf8.acceptRanges", laid_unicode_utf8_acceptRanges), ("loop.example/g00007/impl.limbTens", laid_loop_example_g00007_impl_limbTens), ("loop.example/g00007/impl.signPairs", laid_loop_example_g00007_impl_signPairs), ("loop.example/g00007/impl.noSteps", laid_loop_example_g00007_impl_noSteps), ("unicode/utf8.first", laid_unicode_utf8_first)] }
def FnExactCheckTreeSaid : Prop := fnExactCheckTreeRow.holds Tryz.pinned (OpenSpec.ofChange fnExactCheckTreeSpec)

/-- ITS FALSE NEIGHBOUR: 'it returns false'. Refute it at one input. -/
def fnExactCheckTreeWrong : ChangeSpec := { name := "fnExactCheckTree", vars := ["loop.example/g00007/impl.noSteps", "loop.example/g00007/impl.signPairs", "loop.example/g00007/impl.limbTens"], fn := fun _ => fun
  | [d1, d2, d3, d4, g1, g2, g3] => { results := [.lit (.bool false)], args := [d1, d2, d3, d4], vars := [g1, g2, g3] }
  | _ => none }
def FnExactCheckTreeWrongFalsely : Prop := fnExactCheckTreeRow.holds Tryz.pinned (OpenSpec.ofChange fnExactCheckTreeWrong)

/- THE SECOND FORM. 'bulk': how many values and letters a reading holds, each counted each time it is reached (what is shared counts as often as it is met; a slice's spare places count too). A statement '..UptoSaid' is the law's where the arguments, and the package variables that the reading takes, are together of bulk at most 1048576: NARROWER than '..Said'. Prove '..Said' where nothing that the law and all that it calls make is longer than what came in: it says more and counts as full. Else prove '..UptoSaid'. A law counts once. -/
mutual
def uptoBulk {H : Type} : DataW H → Nat
  | .lit (.string bytes) => bytes.length + 1
  | .lit _ => 1
  | .nil => 1
  | .ptr d => uptoBulk d + 1
  | .slice elems spare => uptoBulkAll elems + uptoBulkAll spare + 1
  | .agg parts => uptoBulkAll parts + 1
  | .iface _ d => uptoBulk d + 1
  | .map entries => uptoBulkEntries entries + 1
  | .held _ => 1
def uptoBulkAll {H : Type} : List (DataW H) → Nat
  | [] => 0
  | d :: r => uptoBulk d + uptoBulkAll r
def uptoBulkEntries {H : Type} : List (Lit × DataW H) → Nat
  | [] => 0
  | x :: r => uptoBulkEntry x + uptoBulkEntries r
def uptoBulkEntry {H : Type} : Lit × DataW H → Nat
  | (.string bytes, d) => bytes.length + uptoBulk d + 1
  | (_, d) => uptoBulk d + 1
 end
def uptoSmall : (H : Type) → List (DataW H) → Bool := fun _ ds => decide (uptoBulkAll ds ≤ 1048576)
def OpenSpec.upto (s : _root_.Go.ChangeSpec) : _root_.Go.OpenSpec := { _root_.Go.OpenSpec.ofChange s with cond := some uptoSmall }

/-- 'laws.FnExactTighten', WHERE WHAT IT READS IS OF BULK AT MOST 1048576: true; the input reads as it did. -/
def fnExactTightenUptoRow : OpenClaim := { program := "ytfclfbpjjlinhaagreatdoor", sum := "683e52bd7ff3fb2eef5ab63e1ffb444cae46777cc6cb40a9176fe99207152a5b", func := "loop.example/g00007/laws.FnExactTighten", spec := "fnExactTighten", inPlace := ["internal/bytealg.IndexByteString", "internal/bytealg.IndexString"], unfollowed := true, recurses := true, named := ["loop.example/g00007/impl.noSteps", "loop.example/g00007/impl.signPairs", "loop.example/g00007/impl.limbTens", "unicode/utf8.first", "unicode/utf8.acceptRanges", "internal/bytealg.MaxLen"], apart := false, laid := [("unicode/utf8.acceptRanges", laid_unicode_utf8_acceptRanges), ("loop.example/g00007/impl.limbTens", laid_loop_example_g00007_impl_limbTens), ("loop.example/g00007/impl.signPairs", laid_loop_example_g00007_impl_signPairs), ("loop.example/g00007/impl.noSteps", laid_loop_example_g00007_impl_noSteps), ("unicode/utf8.first", laid_unicode_utf8_first)], narrowed := true }
def FnExactTightenUptoSaid : Prop := fnExactTightenUptoRow.holds Tryz.pinned (OpenSpec.upto fnExactTightenSpec)

/-- 'laws.FnExactCheckTree', WHERE WHAT IT READS IS OF BULK AT MOST 1048576: true; the input reads as it did. -/
def fnExactCheckTreeUptoRow : OpenClaim := { program := "ytfclfbpjjlinhaagreatdoor", sum := "683e52bd7ff3fb2eef5ab63e1ffb444cae46777cc6cb40a9176fe99207152a5b", func := "loop.example/g00007/laws.FnExactCheckTree", spec := "fnExactCheckTree", inPlace := ["internal/bytealg.IndexByteString", "internal/bytealg.IndexString"], unfollowed := true, recurses := true, named := ["loop.example/g00007/impl.noSteps", "loop.example/g00007/impl.signPairs", "loop.example/g00007/impl.limbTens", "unicode/utf8.first", "unicode/utf8.acceptRanges", "internal/bytealg.MaxLen"], apart := false, laid := [("unicode/utf8.acceptRanges", laid_unicode_utf8_acceptRanges), ("loop.example/g00007/impl.limbTens", laid_loop_example_g00007_impl_limbTens), ("loop.example/g00007/impl.signPairs", laid_loop_example_g00007_impl_signPairs), ("loop.example/g00007/impl.noSteps", laid_loop_example_g00007_impl_noSteps), ("unicode/utf8.first", laid_unicode_utf8_first)], narrowed := true }
def FnExactCheckTreeUptoSaid : Prop := fnExactCheckTreeUptoRow.holds Tryz.pinned (OpenSpec.upto fnExactCheckTreeSpec)

end Rows
end Go.Proofs.YtfclfbpjjlinhaaGreatDoor
