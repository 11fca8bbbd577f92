/-
  NARROWER THAN 'FOR EVERY INPUT', by the rows' own cells (each row's printed sentence says how): FnTreeParts: laid · FnTreeSame: laid · FnNormOnce: laid · FnNormShape: laid · FnNormUses: laid · FnNormNet: laid.
  DERIVED. THE GIVEN ROWS OF THIS SEAT. 6 by the template 'for every input the law returns true; each argument reads behind the call as it read before'; 0 by the template 'total and deterministic' (their statements: YtenoanhonjdpjaaGreatDoorTotals.lean).
  GIVEN WITH THE SEED: the statements are not yours to turn. If you find one false, say at which input.
  Laid BY PROGRAM, IN A SANDBOX (cutbox-rows.mjs): the forced cells as the released guide's own fill.sh prints them over the translation e6132fa7f8bf757d… (all of the seat's roots in one cut). By AI agents, Wed Nov 11 2026. No macro, syntax, notation, axiom, sorry.
-/
import Derived.Test.YtenoanhonjdpjaaGreatDoorChecked
import GoSem.Claim
import GoSem.ClaimJoined
import GoSem.ClaimMapViews
import Derived.JoinedTies
import Derived.KernelRfl
namespace Go.Proofs.YtenoanhonjdpjaaGreatDoor
/- THE CELL 'sum', in the pinned program and in every row, IS THE sha256 OF THE DUMP (.gsa) THAT YtenoanhonjdpjaaGreatDoorProg.lean LOADS. Nothing in Lean hashes anything: it is a label: what it is worth is what the hold of that sum in a sandbox is worth. -/
noncomputable def Tryz.pinned : Pinned := { name := "ytenoanhonjdpjaagreatdoor", sum := "e6132fa7f8bf757de300d0355f2c4c63048801890cabbbe7efc6b7c98413570b", checked := Tryz.checked }
namespace Rows
def none {H : Type} : Left H := { results := [], args := [] }

/- WHAT THE LISTED PACKAGE-LEVEL VARIABLES READ AS WHEN THE CALL BEGINS. Each datum BY PROGRAM (the guide's laid-datum.mjs) off the statement by which the dump's own 'gosem.cut.vars' lays the variable. In a bare row this is a premise. The card (YtenoanhonjdpjaaGreatDoorCards.lean) ties it to the program's text. -/
def laid_errors_errorType {H : Type} : DataW H := .iface "internal/reflectlite.rtype" (.agg [.ptr (.lit (.string [101, 114, 114, 111, 114]))])
def laid_loop_example_stilway_impl_devRows {H : Type} : DataW H := .agg [.agg [.lit (.string []), .lit (.int .i64 0), .lit (.bool false), .lit (.bool false), .lit (.bool false)], .agg [.lit (.string [88]), .lit (.int .i64 32), .lit (.bool true), .lit (.bool false), .lit (.bool false)], .agg [.lit (.string [89]), .lit (.int .i64 32), .lit (.bool true), .lit (.bool false), .lit (.bool false)], .agg [.lit (.string [77]), .lit (.int .i64 64), .lit (.bool true), .lit (.bool false), .lit (.bool false)], .agg [.lit (.string [83]), .lit (.int .i64 16), .lit (.bool true), .lit (.bool false), .lit (.bool false)], .agg [.lit (.string [69]), .lit (.int .i64 32), .lit (.bool false), .lit (.bool false), .lit (.bool false)], .agg [.lit (.string [71]), .lit (.int .i64 5), .lit (.bool true), .lit (.bool false), .lit (.bool false)], .agg [.lit (.string [84]), .lit (.int .i64 16), .lit (.bool true), .lit (.bool true), .lit (.bool false)], .agg [.lit (.string [67]), .lit (.int .i64 16), .lit (.bool true), .lit (.bool true), .lit (.bool false)], .agg [.lit (.string [68]), .lit (.int .i64 32), .lit (.bool false), .lit (.bool true), .lit (.bool false)], .agg [.lit (.string [82]), .lit (.int .i64 16), .lit (.bool false), .lit (.bool false), .lit (.bool true)], .agg [.lit (.string []), .lit (.int .i64 0), .lit (.bool false), .lit (.bool true), .lit (.bool false)], .agg [.lit (.string []), .lit (.int .i64 0), .lit (.bool false), .lit (.bool false), .lit (.bool true)], .agg [.lit (.string []), .lit (.int .i64 0), .lit (.bool false), .lit (.bool false), .lit (.bool true)]]

/-- 'laws.FnTreeParts': WHATEVER THE INPUT: true; the input reads as it did. -/
def fnTreePartsSpec : ChangeSpec := { name := "fnTreeParts", vars := ["loop.example/stilway/impl.devRows"], fn := fun _ => fun
  | [d, g1] => { results := [.lit (.bool true)], args := [d], vars := [g1] }
  | _ => none }
def fnTreePartsRow : OpenClaim := { program := "ytenoanhonjdpjaagreatdoor", sum := "e6132fa7f8bf757de300d0355f2c4c63048801890cabbbe7efc6b7c98413570b", func := "loop.example/stilway/laws.FnTreeParts", spec := "fnTreeParts", inPlace := ["internal/abi.NoEscape", "internal/bytealg.MakeNoZero", "internal/reflectlite.ValueOf", "(internal/reflectlite.Value).Type", "(internal/reflectlite.Value).IsNil", "internal/reflectlite.TypeOf", "(internal/reflectlite.Value).Elem", "(internal/reflectlite.Value).Set"], unfollowed := true, recurses := true, named := ["loop.example/stilway/impl.devRows", "errors.errorType"], apart := false, laid := [("errors.errorType", laid_errors_errorType), ("loop.example/stilway/impl.devRows", laid_loop_example_stilway_impl_devRows)] }
def FnTreePartsSaid : Prop := fnTreePartsRow.holds Tryz.pinned (OpenSpec.ofChange fnTreePartsSpec)

/-- ITS FALSE NEIGHBOUR: 'it returns false'. Refute it at one input. -/
def fnTreePartsWrong : ChangeSpec := { name := "fnTreeParts", vars := ["loop.example/stilway/impl.devRows"], fn := fun _ => fun
  | [d, g1] => { results := [.lit (.bool false)], args := [d], vars := [g1] }
  | _ => none }
def FnTreePartsWrongFalsely : Prop := fnTreePartsRow.holds Tryz.pinned (OpenSpec.ofChange fnTreePartsWrong)

/-- 'laws.FnTreeSame': WHATEVER THE INPUT: true; the input reads as it did. -/
def fnTreeSameSpec : ChangeSpec := { name := "fnTreeSame", vars := ["loop.example/stilway/impl.devRows"], fn := fun _ => fun
  | [d1, d2, g1] => { results := [.lit (.bool true)], args := [d1, d2], vars := [g1] }
  | _ => none }
def fnTreeSameRow : OpenClaim := { program := "ytenoanhonjdpjaagreatdoor", sum := "e6132fa7f8bf757de300d0355f2c4c63048801890cabbbe7efc6b7c98413570b", func := "loop.example/stilway/laws.FnTreeSame", spec := "fnTreeSame", inPlace := ["internal/abi.NoEscape", "internal/bytealg.MakeNoZero", "internal/reflectlite.ValueOf", "(internal/reflectlite.Value).Type", "(internal/reflectlite.Value).IsNil", "internal/reflectlite.TypeOf", "(internal/reflectlite.Value).Elem", "(internal/reflectlite.Value).Set"], unfollowed := true, recurses := true, named := ["loop.example/stilway/impl.devRows", "errors.errorType"], apart := false, laid := [("errors.errorType", laid_errors_errorType), ("loop.example/stilway/impl.devRows", laid_loop_example_stilway_impl_devRows)] }
def FnTreeSameSaid : Prop := fnTreeSameRow.holds Tryz.pinned (OpenSpec.ofChange fnTreeSameSpec)

/-- ITS FALSE NEIGHBOUR: 'it returns false'. Refute it at one input. -/
def fnTreeSameWrong : ChangeSpec := { name := "fnTreeSame", vars := ["loop.example/stilway/impl.devRows"], fn := fun _ => fun
  | [d1, d2, g1] => { results := [.lit (.bool false)], args := [d1, d2], vars := [g1] }
  | _ => none }
def FnTreeSameWrongFalsely : Prop := fnTreeSameRow.holds Tryz.pinned (OpenSpec.ofChange fnTreeSameWrong)

/-- 'laws.FnNormOnce': WHATEVER THE INPUT: true; the input reads as it did. -/
def fnNormOnceSpec : ChangeSpec := { name := "fnNormOnce", vars := ["loop.example/stilway/impl.devRows"], fn := fun _ => fun
  | [d, g1] => { results := [.lit (.bool true)], args := [d], vars := [g1] }
  | _ => none }
def fnNormOnceRow : OpenClaim := { program := "ytenoanhonjdpjaagreatdoor", sum := "e6132fa7f8bf757de300d0355f2c4c63048801890cabbbe7efc6b7c98413570b", func := "loop.example/stilway/laws.FnNormOnce", spec := "fnNormOnce", inPlace := ["internal/abi.NoEscape", "internal/bytealg.MakeNoZero", "internal/reflectlite.ValueOf", "(internal/reflectlite.Value).Type", "(internal/reflectlite.Value).IsNil", "internal/reflectlite.TypeOf", "(internal/reflectlite.Value).Elem", "(internal/reflectlite.Value).Set"], unfollowed := true, recurses := true, named := ["loop.example/stilway/impl.devRows", "errors.errorType"], apart := false, laid := [("errors.errorType", laid_errors_errorType), ("loop.example/stilway/impl.devRows", laid_loop_example_stilway_impl_devRows)] }
def FnNormOnceSaid : Prop := fnNormOnceRow.holds Tryz.pinned (OpenSpec.ofChange fnNormOnceSpec)

/-- ITS FALSE NEIGHBOUR: 'it returns false'. Refute it at one input. -/
def fnNormOnceWrong : ChangeSpec := { name := "fnNormOnce", vars := ["loop.example/stilway/impl.devRows"], fn := fun _ => fun
  | [d, g1] => { results := [.lit (.bool false)], args := [d], vars := [g1] }
  | _ => none }
def FnNormOnceWrongFalsely : Prop := fnNormOnceRow.holds Tryz.pinned (OpenSpec.ofChange fnNormOnceWrong)

/-- 'laws.FnNormShape': WHATEVER THE INPUT: true; the input reads as it did. -/
def fnNormShapeSpec : ChangeSpec := { name := "fnNormShape", vars := ["loop.example/stilway/impl.devRows"], fn := fun _ => fun
  | [d, g1] => { results := [.lit (.bool true)], args := [d], vars := [g1] }
  | _ => none }
def fnNormShapeRow : OpenClaim := { program := "ytenoanhonjdpjaagreatdoor", sum := "e6132fa7f8bf757de300d0355f2c4c63048801890cabbbe7efc6b7c98413570b", func := "loop.example/stilway/laws.FnNormShape", spec := "fnNormShape", inPlace := ["internal/abi.NoEscape", "internal/bytealg.MakeNoZero", "internal/reflectlite.ValueOf", "(internal/reflectlite.Value).Type", "(internal/reflectlite.Value).IsNil", "internal/reflectlite.TypeOf", "(internal/reflectlite.Value).Elem", "(internal/reflectlite.Value).Set"], unfollowed := true, recurses := true, named := ["loop.example/stilway/impl.devRows", "errors.errorType"], apart := false, laid := [("errors.errorType", laid_errors_errorType), ("loop.example/stilway/impl.devRows", laid_loop_example_stilway_impl_devRows)] }
def FnNormShapeSaid : Prop := fnNormShapeRow.holds Tryz.pinned (OpenSpec.ofChange fnNormShapeSpec)

/-- ITS FALSE NEIGHBOUR: 'it returns false'. Refute it at one input. -/
def fnNormShapeWrong : ChangeSpec := { name := "fnNormShape", vars := ["loop.example/stilway/impl.devRows"], fn := fun _ => fun
  | [d, g1] => { results := [.lit (.bool false)], args := [d], vars := [g1] }
  | _ => none }
def FnNormShapeWrongFalsely : Prop := fnNormShapeRow.holds Tryz.pinned (OpenSpec.ofChange fnNormShapeWrong)

/-- 'laws.FnNormUses': WHATEVER THE INPUT: true; the input reads as it did. -/
def fnNormUsesSpec : ChangeSpec := { name := "fnNormUses", vars := ["loop.example/stilway/impl.devRows"], fn := fun _ => fun
  | [d1, d2, g1] => { results := [.lit (.bool true)], args := [d1, d2], vars := [g1] }
  | _ => none }
def fnNormUsesRow : OpenClaim := { program := "ytenoanhonjdpjaagreatdoor", sum := "e6132fa7f8bf757de300d0355f2c4c63048801890cabbbe7efc6b7c98413570b", func := "loop.example/stilway/laws.FnNormUses", spec := "fnNormUses", inPlace := ["internal/abi.NoEscape", "internal/bytealg.MakeNoZero", "internal/reflectlite.ValueOf", "(internal/reflectlite.Value).Type", "(internal/reflectlite.Value).IsNil", "internal/reflectlite.TypeOf", "(internal/reflectlite.Value).Elem", "(internal/reflectlite.Value).Set"], unfollowed := true, recurses := true, named := ["loop.example/stilway/impl.devRows", "errors.errorType"], apart := false, laid := [("errors.errorType", laid_errors_errorType), ("loop.example/stilway/impl.devRows", laid_loop_example_stilway_impl_devRows)] }
def FnNormUsesSaid : Prop := fnNormUsesRow.holds Tryz.pinned (OpenSpec.ofChange fnNormUsesSpec)

/-- ITS FALSE NEIGHBOUR: 'it returns false'. Refute it at one input. -/
def fnNormUsesWrong : ChangeSpec := { name := "fnNormUses", vars := ["loop.example/stilway/impl.devRows"], fn := fun _ => fun
  | [d1, d2, g1] => { results := [.lit (.bool false)], args := [d1, d2], vars := [g1] }
  | _ => none }
def FnNormUsesWrongFalsely : Prop := fnNormUsesRow.holds Tryz.pinned (OpenSpec.ofChange fnNormUsesWrong)

/-- 'laws.FnNormNet': WHATEVER THE INPUT: true; the input reads as it did. -/
def fnNormNetSpec : ChangeSpec := { name := "fnNormNet", vars := ["loop.example/stilway/impl.devRows"], fn := fun _ => fun
  | [d, g1] => { results := [.lit (.bool true)], args := [d], vars := [g1] }
  | _ => none }
def fnNormNetRow : OpenClaim := { program := "ytenoanhonjdpjaagreatdoor", sum := "e6132fa7f8bf757de300d0355f2c4c63048801890cabbbe7efc6b7c98413570b", func := "loop.example/stilway/laws.FnNormNet", spec := "fnNormNet", inPlace := ["internal/abi.NoEscape", "internal/bytealg.MakeNoZero", "internal/reflectlite.ValueOf", "(internal/reflectlite.Value).Type", "(internal/reflectlite.Value).IsNil", "internal/reflectlite.TypeOf", "(internal/reflectlite.Value).Elem", "(internal/reflectlite.Value).Set"], unfollowed := true, recurses := true, named := ["loop.example/stilway/impl.devRows", "errors.errorType"], apart := false, laid := [("errors.errorType", laid_errors_errorType), ("loop.example/stilway/impl.devRows", laid_loop_example_stilway_impl_devRows)] }
def FnNormNetSaid : Prop := fnNormNetRow.holds Tryz.pinned (OpenSpec.ofChange fnNormNetSpec)

/-- ITS FALSE NEIGHBOUR: 'it returns false'. Refute it at one input. -/
def fnNormNetWrong : ChangeSpec := { name := "fnNormNet", vars := ["loop.example/stilway/impl.devRows"], fn := fun _ => fun
  | [d, g1] => { results := [.lit (.bool false)], args := [d], vars := [g1] }
  | _ => none }
def FnNormNetWrongFalsely : Prop := fnNormNetRow.holds Tryz.pinned (OpenSpec.ofChange fnNormNetWrong)

/- THE SECOND FORM. 'bulk': how many values and letters a reading holds, each counted each time it is reached (what is shared counts as often as it is met; a slice's spare places count too). A statement '..UptoSaid' is the law's where the arguments, and the package variables that the reading takes, are together of bulk at most 1048576: NARROWER than '..Said'. Prove '..Said' where nothing that the law and all that it calls make is longer than what came in: it says more and counts as full. Else prove '..UptoSaid'. A law counts once. -/
mutual
def uptoBulk {H : Type} : DataW H → Nat
  | .lit (.string bytes) => bytes.length + 1
  | .lit _ => 1
  | .nil => 1
  | .ptr d => uptoBulk d + 1
  | .slice elems spare => uptoBulkAll elems + uptoBulkAll spare + 1
  | .agg parts => uptoBulkAll parts + 1
  | .iface _ d => uptoBulk d + 1
  | .map entries => uptoBulkEntries entries + 1
  | .held _ => 1
def uptoBulkAll {H : Type} : List (DataW H) → Nat
  | [] => 0
  | d :: r => uptoBulk d + uptoBulkAll r
def uptoBulkEntries {H : Type} : List (Lit × DataW H) → Nat
  | [] => 0
  | x :: r => uptoBulkEntry x + uptoBulkEntries r
def uptoBulkEntry {H : Type} : Lit × DataW H → Nat
  | (.string bytes, d) => bytes.length + uptoBulk d + 1
  | (_, d) => uptoBulk d + 1
 end
def uptoSmall : (H : Type) → List (DataW H) → Bool := fun _ ds => decide (uptoBulkAll ds ≤ 1048576)
def OpenSpec.upto (s : _root_.Go.ChangeSpec) : _root_.Go.OpenSpec := { _root_.Go.OpenSpec.ofChange s with cond := some uptoSmall }

/-- 'laws.FnTreeParts', WHERE WHAT IT READS IS OF BULK AT MOST 1048576: true; the input reads as it did. -/
def fnTreePartsUptoRow : OpenClaim := { program := "ytenoanhonjdpjaagreatdoor", sum := "e6132fa7f8bf757de300d0355f2c4c63048801890cabbbe7efc6b7c98413570b", func := "loop.example/stilway/laws.FnTreeParts", spec := "fnTreeParts", inPlace := ["internal/abi.NoEscape", "internal/bytealg.MakeNoZero", "internal/reflectlite.ValueOf", "(internal/reflectlite.Value).Type", "(internal/reflectlite.Value).IsNil", "internal/reflectlite.TypeOf", "(internal/reflectlite.Value).Elem", "(internal/reflectlite.Value).Set"], unfollowed := true, recurses := true, named := ["loop.example/stilway/impl.devRows", "errors.errorType"], apart := false, laid := [("errors.errorType", laid_errors_errorType), ("loop.example/stilway/impl.devRows", laid_loop_example_stilway_impl_devRows)], narrowed := true }
def FnTreePartsUptoSaid : Prop := fnTreePartsUptoRow.holds Tryz.pinned (OpenSpec.upto fnTreePartsSpec)

/-- 'laws.FnTreeSame', WHERE WHAT IT READS IS OF BULK AT MOST 1048576: true; the input reads as it did. -/
def fnTreeSameUptoRow : OpenClaim := { program := "ytenoanhonjdpjaagreatdoor", sum := "e6132fa7f8bf757de300d0355f2c4c63048801890cabbbe7efc6b7c98413570b", func := "loop.example/stilway/laws.FnTreeSame", spec := "fnTreeSame", inPlace := ["internal/abi.NoEscape", "internal/bytealg.MakeNoZero", "internal/reflectlite.ValueOf", "(internal/reflectlite.Value).Type", "(internal/reflectlite.Value).IsNil", "internal/reflectlite.TypeOf", "(internal/reflectlite.Value).Elem", "(internal/reflectlite.Value).Set"], unfollowed := true, recurses := true, named := ["loop.example/stilway/impl.devRows", "errors.errorType"], apart := false, laid := [("errors.errorType", laid_errors_errorType), ("loop.example/stilway/impl.devRows", laid_loop_example_stilway_impl_devRows)], narrowed := true }
def FnTreeSameUptoSaid : Prop := fnTreeSameUptoRow.holds Tryz.pinned (OpenSpec.upto fnTreeSameSpec)

/-- 'laws.FnNormOnce', WHERE WHAT IT READS IS OF BULK AT MOST 1048576: true; the input reads as it did. -/
def fnNormOnceUptoRow : OpenClaim := { program := "ytenoanhonjdpjaagreatdoor", sum := "e6132fa7f8bf757de300d0355f2c4c63048801890cabbbe7efc6b7c98413570b", func := "loop.example/stilway/laws.FnNormOnce", spec := "fnNormOnce", inPlace := ["internal/abi.NoEscape", "internal/bytealg.MakeNoZero", "internal/reflectlite.ValueOf", "(internal/reflectlite.Value).Type", "(internal/reflectlite.Value).IsNil", "internal/reflectlite.TypeOf", "(internal/reflectlite.Value).Elem", "(internal/reflectlite.Value).Set"], unfollowed := true, recurses := true, named := ["loop.example/stilway/impl.devRows", "errors.errorType"], apart := false, laid := [("errors.errorType", laid_errors_errorType), ("loop.example/stilway/impl.devRows", laid_loop_example_stilway_impl_devRows)], narrowed := true }
def FnNormOnceUptoSaid : Prop := fnNormOnceUptoRow.holds Tryz.pinned (OpenSpec.upto fnNormOnceSpec)

/-- 'laws.FnNormShape', WHERE WHAT IT READS IS OF BULK AT MOST 1048576: true; the input reads as it did. -/
def fnNormShapeUptoRow : OpenClaim := { program := "ytenoanhonjdpjaagreatdoor", sum := "e6132fa7f8bf757de300d0355f2c4c63048801890cabbbe7efc6b7c98413570b", func := "loop.example/stilway/laws.FnNormShape", spec := "fnNormShape", inPlace := ["internal/abi.NoEscape", "internal/bytealg.MakeNoZero", "internal/reflectlite.ValueOf", "(internal/reflectlite.Value).Type", "(internal/reflectlite.Value).IsNil", "internal/reflectlite.TypeOf", "(internal/reflectlite.Value).Elem", "(internal/reflectlite.Value).Set"], unfollowed := true, recurses := true, named := ["loop.example/stilway/impl.devRows", "errors.errorType"], apart := false, laid := [("errors.errorType", laid_errors_errorType), ("loop.example/stilway/impl.devRows", laid_loop_example_stilway_impl_devRows)], narrowed := true }
def FnNormShapeUptoSaid : Prop := fnNormShapeUptoRow.holds Tryz.pinned (OpenSpec.upto fnNormShapeSpec)

/-- 'laws.FnNormUses', WHERE WHAT IT READS IS OF BULK AT MOST 1048576: true; the input reads as it did. -/
def fnNormUsesUptoRow : OpenClaim := { program := "ytenoanhonjdpjaagreatdoor", sum := "e6132fa7f8bf757de300d0355f2c4c63048801890cabbbe7efc6b7c98413570b", func := "loop.example/stilway/laws.FnNormUses", spec := "fnNormUses", inPlace := ["internal/abi.NoEscape", "internal/bytealg.MakeNoZero", "internal/reflectlite.ValueOf", "(internal/reflectlite.Value).Type", "(internal/reflectlite.Value).IsNil", "internal/reflectlite.TypeOf", "(internal/reflectlite.Value).Elem", "(internal/reflectlite.Value).Set"], unfollowed := true, recurses := true, named := ["loop.example/stilway/impl.devRows", "errors.errorType"], apart := false, laid := [("errors.errorType", laid_errors_errorType), ("loop.example/stilway/impl.devRows", laid_loop_example_stilway_impl_devRows)], narrowed := true }
def FnNormUsesUptoSaid : Prop := fnNormUsesUptoRow.holds Tryz.pinned (OpenSpec.upto fnNormUsesSpec)

/-- 'laws.FnNormNet', WHERE WHAT IT READS IS OF BULK AT MOST 1048576: true; the input reads as it did. -/
def fnNormNetUptoRow : OpenClaim := { program := "ytenoanhonjdpjaagreatdoor", sum := "e6132fa7f8bf757de300d0355f2c4c63048801890cabbbe7efc6b7c98413570b", func := "loop.example/stilway/laws.FnNormNet", spec := "fnNormNet", inPlace := ["internal/abi.NoEscape", "internal/bytealg.MakeNoZero", "internal/reflectlite.ValueOf", "(internal/reflectlite.Value).Type", "(internal/reflectlite.Value).IsNil", "internal/reflectlite.TypeOf", "(internal/reflectlite.Value).Elem", "(internal/reflectlite.Value).Set"], unfollowed := true, recurses := true, named := ["loop.example/stilway/impl.devRows", "errors.errorType"], apart := false, laid := [("errors.errorType", laid_errors_errorType), ("loop.example/stilway/impl.devRows", laid_loop_example_stilway_impl_devRows)], narrowed := true }
def FnNormNetUptoSaid : Prop := fnNormNetUptoRow.holds Tryz.pinned (OpenSpec.upto fnNormNetSpec)

end Rows
end Go.Proofs.YtenoanhonjdpjaaGreatDoor
