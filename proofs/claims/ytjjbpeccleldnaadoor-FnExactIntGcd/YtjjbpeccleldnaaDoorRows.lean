/-
  NARROWER THAN 'FOR EVERY INPUT', by the rows' own cells (each row's printed sentence says how): FnExactIntAdd: laid · FnExactIntSub: laid · FnExactIntMul: laid · FnExactIntDiv: laid · FnExactIntGcd: laid · FnExactIntCmp: laid · FnExactIntOf: laid.
  DERIVED. THE GIVEN ROWS OF THIS SEAT. 7 by the template 'for every input the law returns true; each argument reads behind the call as it read before'; 0 by the template 'total and deterministic' (their statements: YtjjbpeccleldnaaDoorTotals.lean).
  GIVEN WITH THE SEED: the statements are not yours to turn. If you find one false, say at which input.
  Laid BY PROGRAM, IN A SANDBOX (cutbox-rows.mjs): the forced cells as the released guide's own fill.sh prints them over the translation 094e5d9cb6e43858… (all of the seat's roots in one cut). By AI agents, Wed Nov 11 2026. No macro, syntax, notation, axiom, sorry.
-/
import Derived.Test.YtjjbpeccleldnaaDoorChecked
import GoSem.PinnedTables
import GoSem.Claim
import GoSem.ClaimJoined
import GoSem.ClaimMapViews
import Derived.JoinedTies
import Derived.KernelRfl
namespace Go.Proofs.YtjjbpeccleldnaaDoor
/- THE CELL 'sum', in the pinned program and in every row, IS THE sha256 OF THE DUMP (.gsa) THAT YtjjbpeccleldnaaDoorProg.lean LOADS. Nothing in Lean hashes anything: it is a label: what it is worth is what the hold of that sum in a sandbox is worth. -/
noncomputable def Tryd.pinned : Pinned := { name := "ytjjbpeccleldnaadoor", sum := "094e5d9cb6e43858a1117d04d994c814958af3193df3991b4ff1c3eed1bf71b4", checked := Tryd.checked }
namespace Rows
def none {H : Type} : Left H := { results := [], args := [] }

/- WHAT THE LISTED PACKAGE-LEVEL VARIABLES READ AS WHEN THE CALL BEGINS. Each datum BY PROGRAM (the guide's laid-datum.mjs) off the statement by which the dump's own 'gosem.cut.vars' lays the variable. In a bare row this is a premise. The card (YtjjbpeccleldnaaDoorCards.lean) ties it to the program's text. -/
def laid_unicode_utf8_acceptRanges {H : Type} : DataW H := .agg [.agg [.lit (.int .u8 128), .lit (.int .u8 191)], .agg [.lit (.int .u8 160), .lit (.int .u8 191)], .agg [.lit (.int .u8 128), .lit (.int .u8 159)], .agg [.lit (.int .u8 144), .lit (.int .u8 191)], .agg [.lit (.int .u8 128), .lit (.int .u8 143)], .agg [.lit (.int .u8 0), .lit (.int .u8 0)], .agg [.lit (.int .u8 0), .lit (.int .u8 0)], .agg [.lit (.int .u8 0), .lit (.int .u8 0)], .agg [.lit (.int .u8 0), .lit (.int .u8 0)], .agg [.lit (.int .u8 0), .lit (.int .u8 0)], .agg [.lit (.int .u8 0), .lit (.int .u8 0)], .agg [.lit (.int .u8 0), .lit (.int .u8 0)], .agg [.lit (.int .u8 0), .lit (.int .u8 0)], .agg [.lit (.int .u8 0), .lit (.int .u8 0)], .agg [.lit (.int .u8 0), .lit (.int .u8 0)], .agg [.lit (.int .u8 0), .lit (.int .u8 0)]]
def laid_loop_example_g00007_impl_limbTens {H : Type} : DataW H := .agg [.lit (.int .u32 100000000), .lit (.int .u32 10000000), .lit (.int .u32 1000000), .lit (.int .u32 100000), .lit (.int .u32 10000), .lit (.int .u32 1000), .lit (.int .u32 100), .lit (.int .u32 10), .lit (.int .u32 1)]
def laid_loop_example_g00007_impl_signPairs {H : Type} : DataW H := .agg [.agg [.agg [.lit (.int .i64 0), .lit (.bool false), .lit (.int .i64 0)], .agg [.lit (.int .i64 1), .lit (.bool true), .lit (.int .i64 1)]], .agg [.agg [.lit (.int .i64 1), .lit (.bool true), .lit (.int .i64 (-1))], .agg [.lit (.int .i64 0), .lit (.bool false), .lit (.int .i64 0)]]]
/-- One of Go's own tables, pinned by name: the form's constant. -/
def laid_unicode_utf8_first : DataW Unit := Go.Pinned.utf8First
def laid_loop_example_g00007_impl_noSteps {H : Type} : DataW H := .agg [.agg [.lit (.int .i64 1), .lit (.int .i64 0)], .agg [.lit (.int .i64 0), .lit (.int .i64 1)]]

/-- 'laws.FnExactIntAdd': WHATEVER THE INPUT: true; the input reads as it did. -/
def fnExactIntAddSpec : ChangeSpec := { name := "fnExactIntAdd", vars := ["loop.example/g00007/impl.signPairs", "loop.example/g00007/impl.limbTens"], fn := fun _ => fun
  | [d1, d2, g1, g2] => { results := [.lit (.bool true)], args := [d1, d2], vars := [g1, g2] }
  | _ => none }
def fnExactIntAddRow : OpenClaim := { program := "ytjjbpeccleldnaadoor", sum := "094e5d9cb6e43858a1117d04d994c814958af3193df3991b4ff1c3eed1bf71b4", func := "loop.example/g00007/laws.FnExactIntAdd", spec := "fnExactIntAdd", inPlace := ["internal/bytealg.IndexByteString", "internal/bytealg.IndexString"], unfollowed := true, recurses := true, named := ["loop.example/g00007/impl.signPairs", "loop.example/g00007/impl.limbTens", "unicode/utf8.first", "unicode/utf8.acceptRanges", "internal/bytealg.MaxLen"], apart := false, laid := [("unicode/utf8.acceptRanges", laid_unicode_utf8_acceptRanges), ("loop.example/g00007/impl.limbTens", laid_loop_example_g00007_impl_limbTens), ("loop.example/g00007/impl.signPairs", laid_loop_example_g00007_impl_signPairs), ("unicode/utf8.first", laid_unicode_utf8_first)] }
def FnExactIntAddSaid : Prop := fnExactIntAddRow.holds Tryd.pinned (OpenSpec.ofChange fnExactIntAddSpec)

/-- ITS FALSE NEIGHBOUR: 'it returns false'. Refute it at one input. -/
def fnExactIntAddWrong : ChangeSpec := { name := "fnExactIntAdd", vars := ["loop.example/g00007/impl.signPairs", "loop.example/g00007/impl.limbTens"], fn := fun _ => fun
  | [d1, d2, g1, g2] => { results := [.lit (.bool false)], args := [d1, d2], vars := [g1, g2] }
  | _ => none }
def FnExactIntAddWrongFalsely : Prop := fnExactIntAddRow.holds Tryd.pinned (OpenSpec.ofChange fnExactIntAddWrong)

/-- 'laws.FnExactIntSub': WHATEVER THE INPUT: true; the input reads as it did. -/
def fnExactIntSubSpec : ChangeSpec := { name := "fnExactIntSub", vars := ["loop.example/g00007/impl.signPairs", "loop.example/g00007/impl.limbTens"], fn := fun _ => fun
  | [d1, d2, g1, g2] => { results := [.lit (.bool true)], args := [d1, d2], vars := [g1, g2] }
  | _ => none }
def fnExactIntSubRow : OpenClaim := { program := "ytjjbpeccleldnaadoor", sum := "094e5d9cb6e43858a1117d04d994c814958af3193df3991b4ff1c3eed1bf71b4", func := "loop.example/g00007/laws.FnExactIntSub", spec := "fnExactIntSub", inPlace := ["internal/bytealg.IndexByteString", "internal/bytealg.IndexString"], unfollowed := true, recurses := true, named := ["loop.example/g00007/impl.signPairs", "loop.example/g00007/impl.limbTens", "unicode/utf8.first", "unicode/utf8.acceptRanges", "internal/bytealg.MaxLen"], apart := false, laid := [("unicode/utf8.acceptRanges", laid_unicode_utf8_acceptRanges), ("loop.example/g00007/impl.limbTens", laid_loop_example_g00007_impl_limbTens), ("loop.example/g00007/impl.signPairs", laid_loop_example_g00007_impl_signPairs), ("unicode/utf8.first", laid_unicode_utf8_first)] }
def FnExactIntSubSaid : Prop := fnExactIntSubRow.holds Tryd.pinned (OpenSpec.ofChange fnExactIntSubSpec)

/-- ITS FALSE NEIGHBOUR: 'it returns false'. Refute it at one input. -/
def fnExactIntSubWrong : ChangeSpec := { name := "fnExactIntSub", vars := ["loop.example/g00007/impl.signPairs", "loop.example/g00007/impl.limbTens"], fn := fun _ => fun
  | [d1, d2, g1, g2] => { results := [.lit (.bool false)], args := [d1, d2], vars := [g1, g2] }
  | _ => none }
def FnExactIntSubWrongFalsely : Prop := fnExactIntSubRow.holds Tryd.pinned (OpenSpec.ofChange fnExactIntSubWrong)

/-- 'laws.FnExactIntMul': WHATEVER THE INPUT: true; the input reads as it did. -/
def fnExactIntMulSpec : ChangeSpec := { name := "fnExactIntMul", vars := ["loop.example/g00007/impl.signPairs", "loop.example/g00007/impl.limbTens"], fn := fun _ => fun
  | [d1, d2, g1, g2] => { results := [.lit (.bool true)], args := [d1, d2], vars := [g1, g2] }
  | _ => none }
def fnExactIntMulRow : OpenClaim := { program := "ytjjbpeccleldnaadoor", sum := "094e5d9cb6e43858a1117d04d994c814958af3193df3991b4ff1c3eed1bf71b4", func := "loop.example/g00007/laws.FnExactIntMul", spec := "fnExactIntMul", inPlace := ["internal/bytealg.IndexByteString", "internal/bytealg.IndexString"], unfollowed := true, recurses := true, named := ["loop.example/g00007/impl.signPairs", "loop.example/g00007/impl.limbTens", "unicode/utf8.first", "unicode/utf8.acceptRanges", "internal/bytealg.MaxLen"], apart := false, laid := [("unicode/utf8.acceptRanges", laid_unicode_utf8_acceptRanges), ("loop.example/g00007/impl.limbTens", laid_loop_example_g00007_impl_limbTens), ("loop.example/g00007/impl.signPairs", laid_loop_example_g00007_impl_signPairs), ("unicode/utf8.first", laid_unicode_utf8_first)] }
def FnExactIntMulSaid : Prop := fnExactIntMulRow.holds Tryd.pinned (OpenSpec.ofChange fnExactIntMulSpec)

/-- ITS FALSE NEIGHBOUR: 'it returns false'. Refute it at one input. -/
def fnExactIntMulWrong : ChangeSpec := { name := "fnExactIntMul", vars := ["loop.example/g00007/impl.signPairs", "loop.example/g00007/impl.limbTens"], fn := fun _ => fun
  | [d1, d2, g1, g2] => { results := [.lit (.bool false)], args := [d1, d2], vars := [g1, g2] }
  | _ => none }
def FnExactIntMulWrongFalsely : Prop := fnExactIntMulRow.holds Tryd.pinned (OpenSpec.ofChange fnExactIntMulWrong)

/-- 'laws.FnExactIntDiv': WHATEVER THE INPUT: true; the input reads as it did. -/
def fnExactIntDivSpec : ChangeSpec := { name := "fnExactIntDiv", vars := ["loop.example/g00007/impl.signPairs", "loop.example/g00007/impl.limbTens"], fn := fun _ => fun
  | [d1, d2, g1, g2] => { results := [.lit (.bool true)], args := [d1, d2], vars := [g1, g2] }
  | _ => none }
def fnExactIntDivRow : OpenClaim := { program := "ytjjbpeccleldnaadoor", sum := "094e5d9cb6e43858a1117d04d994c814958af3193df3991b4ff1c3eed1bf71b4", func := "loop.example/g00007/laws.FnExactIntDiv", spec := "fnExactIntDiv", inPlace := ["internal/bytealg.IndexByteString", "internal/bytealg.IndexString"], unfollowed := true, recurses := true, named := ["loop.example/g00007/impl.signPairs", "loop.example/g00007/impl.limbTens", "unicode/utf8.first", "unicode/utf8.acceptRanges", "internal/bytealg.MaxLen"], apart := false, laid := [("unicode/utf8.acceptRanges", laid_unicode_utf8_acceptRanges), ("loop.example/g00007/impl.limbTens", laid_loop_example_g00007_impl_limbTens), ("loop.example/g00007/impl.signPairs", laid_loop_example_g00007_impl_signPairs), ("unicode/utf8.first", laid_unicode_utf8_first)] }
def FnExactIntDivSaid : Prop := fnExactIntDivRow.holds Tryd.pinned (OpenSpec.ofChange fnExactIntDivSpec)

/-- ITS FALSE NEIGHBOUR: 'it returns false'. Refute it at one input. -/
def fnExactIntDivWrong : ChangeSpec := { name := "fnExactIntDiv", vars := ["loop.example/g00007/impl.signPairs", "loop.example/g00007/impl.limbTens"], fn := fun _ => fun
  | [d1, d2, g1, g2] => { results := [.lit (.bool false)], args := [d1, d2], vars := [g1, g2] }
  | _ => none }
def FnExactIntDivWrongFalsely : Prop := fnExactIntDivRow.holds Tryd.pinned (OpenSpec.ofChange fnExactIntDivWrong)

/-- 'laws.FnExactIntGcd': WHATEVER THE INPUT: true; the input reads as it did. -/
def fnExactIntGcdSpec : ChangeSpec := { name := "fnExactIntGcd", vars := ["loop.example/g00007/impl.noSteps", "loop.example/g00007/impl.limbTens"], fn := fun _ => fun
  | [d1, d2, g1, g2] => { results := [.lit (.bool true)], args := [d1, d2], vars := [g1, g2] }
  | _ => none }
def fnExactIntGcdRow : OpenClaim := { program := "ytjjbpeccleldnaadoor", sum := "094e5d9cb6e43858a1117d04d994c814958af3193df3991b4ff1c3eed1bf71b4", func := "loop.example/g00007/laws.FnExactIntGcd", spec := "fnExactIntGcd", inPlace := ["internal/bytealg.IndexByteString", "internal/bytealg.IndexString"], unfollowed := true, recurses := true, named := ["loop.example/g00007/impl.noSteps", "loop.example/g00007/impl.limbTens", "unicode/utf8.first", "unicode/utf8.acceptRanges", "internal/bytealg.MaxLen"], apart := false, laid := [("unicode/utf8.acceptRanges", laid_unicode_utf8_acceptRanges), ("loop.example/g00007/impl.limbTens", laid_loop_example_g00007_impl_limbTens), ("loop.example/g00007/impl.noSteps", laid_loop_example_g00007_impl_noSteps), ("unicode/utf8.first", laid_unicode_utf8_first)] }
def FnExactIntGcdSaid : Prop := fnExactIntGcdRow.holds Tryd.pinned (OpenSpec.ofChange fnExactIntGcdSpec)

/-- ITS FALSE NEIGHBOUR: 'it returns false'. Refute it at one input. -/
def fnExactIntGcdWrong : ChangeSpec := { name := "fnExactIntGcd", vars := ["loop.example/g00007/impl.noSteps", "loop.example/g00007/impl.limbTens"], fn := fun _ => fun
  | [d1, d2, g1, g2] => { results := [.lit (.bool false)], args := [d1, d2], vars := [g1, g2] }
  | _ => none }
def FnExactIntGcdWrongFalsely : Prop := fnExactIntGcdRow.holds Tryd.pinned (OpenSpec.ofChange fnExactIntGcdWrong)

/-- 'laws.FnExactIntCmp': WHATEVER THE INPUT: true; the input reads as it did. -/
def fnExactIntCmpSpec : ChangeSpec := { name := "fnExactIntCmp", vars := ["loop.example/g00007/impl.signPairs"], fn := fun _ => fun
  | [d1, d2, g1] => { results := [.lit (.bool true)], args := [d1, d2], vars := [g1] }
  | _ => none }
def fnExactIntCmpRow : OpenClaim := { program := "ytjjbpeccleldnaadoor", sum := "094e5d9cb6e43858a1117d04d994c814958af3193df3991b4ff1c3eed1bf71b4", func := "loop.example/g00007/laws.FnExactIntCmp", spec := "fnExactIntCmp", named := ["loop.example/g00007/impl.signPairs"], apart := false, laid := [("loop.example/g00007/impl.signPairs", laid_loop_example_g00007_impl_signPairs)] }
def FnExactIntCmpSaid : Prop := fnExactIntCmpRow.holds Tryd.pinned (OpenSpec.ofChange fnExactIntCmpSpec)

/-- ITS FALSE NEIGHBOUR: 'it returns false'. Refute it at one input. -/
def fnExactIntCmpWrong : ChangeSpec := { name := "fnExactIntCmp", vars := ["loop.example/g00007/impl.signPairs"], fn := fun _ => fun
  | [d1, d2, g1] => { results := [.lit (.bool false)], args := [d1, d2], vars := [g1] }
  | _ => none }
def FnExactIntCmpWrongFalsely : Prop := fnExactIntCmpRow.holds Tryd.pinned (OpenSpec.ofChange fnExactIntCmpWrong)

/-- 'laws.FnExactIntOf': WHATEVER THE INPUT: true; the input reads as it did. -/
def fnExactIntOfSpec : ChangeSpec := { name := "fnExactIntOf", vars := ["loop.example/g00007/impl.limbTens"], fn := fun _ => fun
  | [d, g1] => { results := [.lit (.bool true)], args := [d], vars := [g1] }
  | _ => none }
def fnExactIntOfRow : OpenClaim := { program := "ytjjbpeccleldnaadoor", sum := "094e5d9cb6e43858a1117d04d994c814958af3193df3991b4ff1c3eed1bf71b4", func := "loop.example/g00007/laws.FnExactIntOf", spec := "fnExactIntOf", inPlace := ["internal/bytealg.IndexByteString", "internal/bytealg.IndexString"], unfollowed := true, recurses := true, named := ["loop.example/g00007/impl.limbTens", "unicode/utf8.first", "unicode/utf8.acceptRanges", "internal/bytealg.MaxLen"], apart := false, laid := [("unicode/utf8.acceptRanges", laid_unicode_utf8_acceptRanges), ("loop.example/g00007/impl.limbTens", laid_loop_example_g00007_impl_limbTens), ("unicode/utf8.first", laid_unicode_utf8_first)] }
def FnExactIntOfSaid : Prop := fnExactIntOfRow.holds Tryd.pinned (OpenSpec.ofChange fnExactIntOfSpec)

/-- ITS FALSE NEIGHBOUR: 'it returns false'. Refute it at one input. -/
def fnExactIntOfWrong : ChangeSpec := { name := "fnExactIntOf", vars := ["loop.example/g00007/impl.limbTens"], fn := fun _ => fun
  | [d, g1] => { results := [.lit (.bool false)], args := [d], vars := [g1] }
  | _ => none }
def FnExactIntOfWrongFalsely : Prop := fnExactIntOfRow.holds Tryd.pinned (OpenSpec.ofChange fnExactIntOfWrong)

/- THE SECOND FORM. 'bulk': how many values and letters a reading holds, each counted each time it is reached (what is shared counts as often as it is met; a slice's spare places count too). A statement '..UptoSaid' is the law's where the arguments, and the package variables that the reading takes, are together of bulk at most 1048576: NARROWER than '..Said'. Prove '..Said' where nothing that the law and all that it calls make is longer than what came in: it says more and counts as full. Else prove '..UptoSaid'. A law counts once. -/
mutual
def uptoBulk {H : Type} : DataW H → Nat
  | .lit (.string bytes) => bytes.length + 1
  | .lit _ => 1
  | .nil => 1
  | .ptr d => uptoBulk d + 1
  | .slice elems spare => uptoBulkAll elems + uptoBulkAll spare + 1
  | .agg parts => uptoBulkAll parts + 1
  | .iface _ d => uptoBulk d + 1
  | .map entries => uptoBulkEntries entries + 1
  | .held _ => 1
def uptoBulkAll {H : Type} : List (DataW H) → Nat
  | [] => 0
  | d :: r => uptoBulk d + uptoBulkAll r
def uptoBulkEntries {H : Type} : List (Lit × DataW H) → Nat
  | [] => 0
  | x :: r => uptoBulkEntry x + uptoBulkEntries r
def uptoBulkEntry {H : Type} : Lit × DataW H → Nat
  | (.string bytes, d) => bytes.length + uptoBulk d + 1
  | (_, d) => uptoBulk d + 1
 end
def uptoSmall : (H : Type) → List (DataW H) → Bool := fun _ ds => decide (uptoBulkAll ds ≤ 1048576)
def OpenSpec.upto (s : _root_.Go.ChangeSpec) : _root_.Go.OpenSpec := { _root_.Go.OpenSpec.ofChange s with cond := some uptoSmall }

/-- 'laws.FnExactIntAdd', WHERE WHAT IT READS IS OF BULK AT MOST 1048576: true; the input reads as it did. -/
def fnExactIntAddUptoRow : OpenClaim := { program := "ytjjbpeccleldnaadoor", sum := "094e5d9cb6e43858a1117d04d994c814958af3193df3991b4ff1c3eed1bf71b4", func := "loop.example/g00007/laws.FnExactIntAdd", spec := "fnExactIntAdd", inPlace := ["internal/bytealg.IndexByteString", "internal/bytealg.IndexString"], unfollowed := true, recurses := true, named := ["loop.example/g00007/impl.signPairs", "loop.example/g00007/impl.limbTens", "unicode/utf8.first", "unicode/utf8.acceptRanges", "internal/bytealg.MaxLen"], apart := false, laid := [("unicode/utf8.acceptRanges", laid_unicode_utf8_acceptRanges), ("loop.example/g00007/impl.limbTens", laid_loop_example_g00007_impl_limbTens), ("loop.example/g00007/impl.signPairs", laid_loop_example_g00007_impl_signPairs), ("unicode/utf8.first", laid_unicode_utf8_first)], narrowed := true }
def FnExactIntAddUptoSaid : Prop := fnExactIntAddUptoRow.holds Tryd.pinned (OpenSpec.upto fnExactIntAddSpec)

/-- 'laws.FnExactIntSub', WHERE WHAT IT READS IS OF BULK AT MOST 1048576: true; the input reads as it did. -/
def fnExactIntSubUptoRow : OpenClaim := { program := "ytjjbpeccleldnaadoor", sum := "094e5d9cb6e43858a1117d04d994c814958af3193df3991b4ff1c3eed1bf71b4", func := "loop.example/g00007/laws.FnExactIntSub", spec := "fnExactIntSub", inPlace := ["internal/bytealg.IndexByteString", "internal/bytealg.IndexString"], unfollowed := true, recurses := true, named := ["loop.example/g00007/impl.signPairs", "loop.example/g00007/impl.limbTens", "unicode/utf8.first", "unicode/utf8.acceptRanges", "internal/bytealg.MaxLen"], apart := false, laid := [("unicode/utf8.acceptRanges", laid_unicode_utf8_acceptRanges), ("loop.example/g00007/impl.limbTens", laid_loop_example_g00007_impl_limbTens), ("loop.example/g00007/impl.signPairs", laid_loop_example_g00007_impl_signPairs), ("unicode/utf8.first", laid_unicode_utf8_first)], narrowed := true }
def FnExactIntSubUptoSaid : Prop := fnExactIntSubUptoRow.holds Tryd.pinned (OpenSpec.upto fnExactIntSubSpec)

/-- 'laws.FnExactIntMul', WHERE WHAT IT READS IS OF BULK AT MOST 1048576: true; the input reads as it did. -/
def fnExactIntMulUptoRow : OpenClaim := { program := "ytjjbpeccleldnaadoor", sum := "094e5d9cb6e43858a1117d04d994c814958af3193df3991b4ff1c3eed1bf71b4", func := "loop.example/g00007/laws.FnExactIntMul", spec := "fnExactIntMul", inPlace := ["internal/bytealg.IndexByteString", "internal/bytealg.IndexString"], unfollowed := true, recurses := true, named := ["loop.example/g00007/impl.signPairs", "loop.example/g00007/impl.limbTens", "unicode/utf8.first", "unicode/utf8.acceptRanges", "internal/bytealg.MaxLen"], apart := false, laid := [("unicode/utf8.acceptRanges", laid_unicode_utf8_acceptRanges), ("loop.example/g00007/impl.limbTens", laid_loop_example_g00007_impl_limbTens), ("loop.example/g00007/impl.signPairs", laid_loop_example_g00007_impl_signPairs), ("unicode/utf8.first", laid_unicode_utf8_first)], narrowed := true }
def FnExactIntMulUptoSaid : Prop := fnExactIntMulUptoRow.holds Tryd.pinned (OpenSpec.upto fnExactIntMulSpec)

/-- 'laws.FnExactIntDiv', WHERE WHAT IT READS IS OF BULK AT MOST 1048576: true; the input reads as it did. -/
def fnExactIntDivUptoRow : OpenClaim := { program := "ytjjbpeccleldnaadoor", sum := "094e5d9cb6e43858a1117d04d994c814958af3193df3991b4ff1c3eed1bf71b4", func := "loop.example/g00007/laws.FnExactIntDiv", spec := "fnExactIntDiv", inPlace := ["internal/bytealg.IndexByteString", "internal/bytealg.IndexString"], unfollowed := true, recurses := true, named := ["loop.example/g00007/impl.signPairs", "loop.example/g00007/impl.limbTens", "unicode/utf8.first", "unicode/utf8.acceptRanges", "internal/bytealg.MaxLen"], apart := false, laid := [("unicode/utf8.acceptRanges", laid_unicode_utf8_acceptRanges), ("loop.example/g00007/impl.limbTens", laid_loop_example_g00007_impl_limbTens), ("loop.example/g00007/impl.signPairs", laid_loop_example_g00007_impl_signPairs), ("unicode/utf8.first", laid_unicode_utf8_first)], narrowed := true }
def FnExactIntDivUptoSaid : Prop := fnExactIntDivUptoRow.holds Tryd.pinned (OpenSpec.upto fnExactIntDivSpec)

/-- 'laws.FnExactIntGcd', WHERE WHAT IT READS IS OF BULK AT MOST 1048576: true; the input reads as it did. -/
def fnExactIntGcdUptoRow : OpenClaim := { program := "ytjjbpeccleldnaadoor", sum := "094e5d9cb6e43858a1117d04d994c814958af3193df3991b4ff1c3eed1bf71b4", func := "loop.example/g00007/laws.FnExactIntGcd", spec := "fnExactIntGcd", inPlace := ["internal/bytealg.IndexByteString", "internal/bytealg.IndexString"], unfollowed := true, recurses := true, named := ["loop.example/g00007/impl.noSteps", "loop.example/g00007/impl.limbTens", "unicode/utf8.first", "unicode/utf8.acceptRanges", "internal/bytealg.MaxLen"], apart := false, laid := [("unicode/utf8.acceptRanges", laid_unicode_utf8_acceptRanges), ("loop.example/g00007/impl.limbTens", laid_loop_example_g00007_impl_limbTens), ("loop.example/g00007/impl.noSteps", laid_loop_example_g00007_impl_noSteps), ("unicode/utf8.first", laid_unicode_utf8_first)], narrowed := true }
def FnExactIntGcdUptoSaid : Prop := fnExactIntGcdUptoRow.holds Tryd.pinned (OpenSpec.upto fnExactIntGcdSpec)

/-- 'laws.FnExactIntCmp', WHERE WHAT IT READS IS OF BULK AT MOST 1048576: true; the input reads as it did. -/
def fnExactIntCmpUptoRow : OpenClaim := { program := "ytjjbpeccleldnaadoor", sum := "094e5d9cb6e43858a1117d04d994c814958af3193df3991b4ff1c3eed1bf71b4", func := "loop.example/g00007/laws.FnExactIntCmp", spec := "fnExactIntCmp", named := ["loop.example/g00007/impl.signPairs"], apart := false, laid := [("loop.example/g00007/impl.signPairs", laid_loop_example_g00007_impl_signPairs)], narrowed := true }
def FnExactIntCmpUptoSaid : Prop := fnExactIntCmpUptoRow.holds Tryd.pinned (OpenSpec.upto fnExactIntCmpSpec)

/-- 'laws.FnExactIntOf', WHERE WHAT IT READS IS OF BULK AT MOST 1048576: true; the input reads as it did. -/
def fnExactIntOfUptoRow : OpenClaim := { program := "ytjjbpeccleldnaadoor", sum := "094e5d9cb6e43858a1117d04d994c814958af3193df3991b4ff1c3eed1bf71b4", func := "loop.example/g00007/laws.FnExactIntOf", spec := "fnExactIntOf", inPlace := ["internal/bytealg.IndexByteString", "internal/bytealg.IndexString"], unfollowed := true, recurses := true, named := ["loop.example/g00007/impl.limbTens", "unicode/utf8.first", "unicode/utf8.acceptRanges", "internal/bytealg.MaxLen"], apart := false, laid := [("unicode/utf8.acceptRanges", laid_unicode_utf8_acceptRanges), ("loop.example/g00007/impl.limbTens", laid_loop_example_g00007_impl_limbTens), ("unicode/utf8.first", laid_unicode_utf8_first)], narrowed := true }
def FnExactIntOfUptoSaid : Prop := fnExactIntOfUptoRow.holds Tryd.pinned (OpenSpec.upto fnExactIntOfSpec)

end Rows
end Go.Proofs.YtjjbpeccleldnaaDoor
