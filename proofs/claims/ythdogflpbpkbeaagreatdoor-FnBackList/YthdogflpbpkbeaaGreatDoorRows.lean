/-
  NARROWER THAN 'FOR EVERY INPUT', by the rows' own cells (each row's printed sentence says how): FnBackList: laid.
  DERIVED. THE GIVEN ROWS OF THIS SEAT. 1 by the template 'for every input the law returns true; each argument reads behind the call as it read before'; 0 by the template 'total and deterministic' (their statements: YthdogflpbpkbeaaGreatDoorTotals.lean).
  GIVEN WITH THE SEED: the statements are not yours to turn. If you find one false, say at which input.
  Laid BY PROGRAM, IN A SANDBOX (cutbox-rows.mjs): the forced cells as the released guide's own fill.sh prints them over the translation c68646f6e52d80a0… (all of the seat's roots in one cut). By AI agents, Wed Nov 11 2026. No macro, syntax, notation, axiom, sorry.
-/
import Derived.Test.YthdogflpbpkbeaaGreatDoorChecked
import GoSem.Claim
import GoSem.ClaimJoined
import GoSem.ClaimMapViews
import Derived.JoinedTies
import Derived.KernelRfl
namespace Go.Proofs.YthdogflpbpkbeaaGreatDoor
/- THE CELL 'sum', in the pinned program and in every row, IS THE sha256 OF THE DUMP (.gsa) THAT YthdogflpbpkbeaaGreatDoorProg.lean LOADS. Nothing in Lean hashes anything: it is a label: what it is worth is what the hold of that sum in a sandbox is worth. -/
noncomputable def Tryz.pinned : Pinned := { name := "ythdogflpbpkbeaagreatdoor", sum := "c68646f6e52d80a0fde069fcef0c265403c478364901e50aa184a1bb5af4b3d2", checked := Tryz.checked }
namespace Rows
def none {H : Type} : Left H := { results := [], args := [] }

/- WHAT THE LISTED PACKAGE-LEVEL VARIABLES READ AS WHEN THE CALL BEGINS. Each datum BY PROGRAM (the guide's laid-datum.mjs) off the statement by which the dump's own 'gosem.cut.vars' lays the variable. In a bare row this is a premise. The card (YthdogflpbpkbeaaGreatDoorCards.lean) ties it to the program's text. -/
def laid_errors_errorType {H : Type} : DataW H := .iface "internal/reflectlite.rtype" (.agg [.ptr (.lit (.string [101, 114, 114, 111, 114]))])
def laid_loop_example_stilway_impl_devRows {H : Type} : DataW H := .agg [.agg [.lit (.string []), .lit (.int .i64 0), .lit (.bool false), .lit (.bool false), .lit (.bool false)], .agg [.lit (.string [88]), .lit (.int .i64 32), .lit (.bool true), .lit (.bool false), .lit (.bool false)], .agg [.lit (.string [89]), .lit (.int .i64 32), .lit (.bool true), .lit (.bool false), .lit (.bool false)], .agg [.lit (.string [77]), .lit (.int .i64 64), .lit (.bool true), .lit (.bool false), .lit (.bool false)], .agg [.lit (.string [83]), .lit (.int .i64 16), .lit (.bool true), .lit (.bool false), .lit (.bool false)], .agg [.lit (.string [69]), .lit (.int .i64 32), .lit (.bool false), .lit (.bool false), .lit (.bool false)], .agg [.lit (.string [71]), .lit (.int .i64 5), .lit (.bool true), .lit (.bool false), .lit (.bool false)], .agg [.lit (.string [84]), .lit (.int .i64 16), .lit (.bool true), .lit (.bool true), .lit (.bool false)], .agg [.lit (.string [67]), .lit (.int .i64 16), .lit (.bool true), .lit (.bool true), .lit (.bool false)], .agg [.lit (.string [68]), .lit (.int .i64 32), .lit (.bool false), .lit (.bool true), .lit (.bool false)], .agg [.lit (.string [82]), .lit (.int .i64 16), .lit (.bool false), .lit (.bool false), .lit (.bool true)], .agg [.lit (.string []), .lit (.int .i64 0), .lit (.bool false), .lit (.bool true), .lit (.bool false)], .agg [.lit (.string []), .lit (.int .i64 0), .lit (.bool false), .lit (.bool false), .lit (.bool true)], .agg [.lit (.string []), .lit (.int .i64 0), .lit (.bool false), .lit (.bool false), .lit (.bool true)]]
def laid_loop_example_stilway_impl_listWords {H : Type} : DataW H := .agg [.lit (.string []), .lit (.string [108, 100]), .lit (.string [97, 110, 100]), .lit (.string [111, 114]), .lit (.string [97, 110, 98]), .lit (.string [111, 114, 98]), .lit (.string [105, 110, 118]), .lit (.string [109, 112, 115]), .lit (.string [109, 114, 100]), .lit (.string [109, 112, 112]), .lit (.string [99, 111, 105, 108]), .lit (.string [101, 110, 100])]

/-- 'laws.FnBackList': WHATEVER THE INPUT: true; the input reads as it did. -/
def fnBackListSpec : ChangeSpec := { name := "fnBackList", vars := ["loop.example/stilway/impl.devRows", "loop.example/stilway/impl.listWords"], fn := fun _ => fun
  | [d, g1, g2] => { results := [.lit (.bool true)], args := [d], vars := [g1, g2] }
  | _ => none }
def fnBackListRow : OpenClaim := { program := "ythdogflpbpkbeaagreatdoor", sum := "c68646f6e52d80a0fde069fcef0c265403c478364901e50aa184a1bb5af4b3d2", func := "loop.example/stilway/laws.FnBackList", spec := "fnBackList", inPlace := ["internal/abi.NoEscape", "internal/bytealg.MakeNoZero", "internal/reflectlite.ValueOf", "(internal/reflectlite.Value).Type", "(internal/reflectlite.Value).IsNil", "internal/reflectlite.TypeOf", "(internal/reflectlite.Value).Elem", "(internal/reflectlite.Value).Set"], unfollowed := true, recurses := true, named := ["loop.example/stilway/impl.devRows", "loop.example/stilway/impl.listWords", "errors.errorType"], leaving := true, apart := false, laid := [("errors.errorType", laid_errors_errorType), ("loop.example/stilway/impl.devRows", laid_loop_example_stilway_impl_devRows), ("loop.example/stilway/impl.listWords", laid_loop_example_stilway_impl_listWords)] }
def FnBackListSaid : Prop := fnBackListRow.holds Tryz.pinned (OpenSpec.ofChange fnBackListSpec)

/-- ITS FALSE NEIGHBOUR: 'it returns false'. Refute it at one input. -/
def fnBackListWrong : ChangeSpec := { name := "fnBackList", vars := ["loop.example/stilway/impl.devRows", "loop.example/stilway/impl.listWords"], fn := fun _ => fun
  | [d, g1, g2] => { results := [.lit (.bool false)], args := [d], vars := [g1, g2] }
  | _ => none }
def FnBackListWrongFalsely : Prop := fnBackListRow.holds Tryz.pinned (OpenSpec.ofChange fnBackListWrong)

/- THE SECOND FORM. 'bulk': how many values and letters a reading holds, each counted each time it is reached (what is shared counts as often as it is met; a slice's spare places count too). A statement '..UptoSaid' is the law's where the arguments, and the package variables that the reading takes, are together of bulk at most 1048576: NARROWER than '..Said'. Prove '..Said' where nothing that the law and all that it calls make is longer than what came in: it says more and counts as full. Else prove '..UptoSaid'. A law counts once. -/
mutual
def uptoBulk {H : Type} : DataW H → Nat
  | .lit (.string bytes) => bytes.length + 1
  | .lit _ => 1
  | .nil => 1
  | .ptr d => uptoBulk d + 1
  | .slice elems spare => uptoBulkAll elems + uptoBulkAll spare + 1
  | .agg parts => uptoBulkAll parts + 1
  | .iface _ d => uptoBulk d + 1
  | .map entries => uptoBulkEntries entries + 1
  | .held _ => 1
def uptoBulkAll {H : Type} : List (DataW H) → Nat
  | [] => 0
  | d :: r => uptoBulk d + uptoBulkAll r
def uptoBulkEntries {H : Type} : List (Lit × DataW H) → Nat
  | [] => 0
  | x :: r => uptoBulkEntry x + uptoBulkEntries r
def uptoBulkEntry {H : Type} : Lit × DataW H → Nat
  | (.string bytes, d) => bytes.length + uptoBulk d + 1
  | (_, d) => uptoBulk d + 1
 end
def uptoSmall : (H : Type) → List (DataW H) → Bool := fun _ ds => decide (uptoBulkAll ds ≤ 1048576)
def OpenSpec.upto (s : _root_.Go.ChangeSpec) : _root_.Go.OpenSpec := { _root_.Go.OpenSpec.ofChange s with cond := some uptoSmall }

/-- 'laws.FnBackList', WHERE WHAT IT READS IS OF BULK AT MOST 1048576: true; the input reads as it did. -/
def fnBackListUptoRow : OpenClaim := { program := "ythdogflpbpkbeaagreatdoor", sum := "c68646f6e52d80a0fde069fcef0c265403c478364901e50aa184a1bb5af4b3d2", func := "loop.example/stilway/laws.FnBackList", spec := "fnBackList", inPlace := ["internal/abi.NoEscape", "internal/bytealg.MakeNoZero", "internal/reflectlite.ValueOf", "(internal/reflectlite.Value).Type", "(internal/reflectlite.Value).IsNil", "internal/reflectlite.TypeOf", "(internal/reflectlite.Value).Elem", "(internal/reflectlite.Value).Set"], unfollowed := true, recurses := true, named := ["loop.example/stilway/impl.devRows", "loop.example/stilway/impl.listWords", "errors.errorType"], leaving := true, apart := false, laid := [("errors.errorType", laid_errors_errorType), ("loop.example/stilway/impl.devRows", laid_loop_example_stilway_impl_devRows), ("loop.example/stilway/impl.listWords", laid_loop_example_stilway_impl_listWords)], narrowed := true }
def FnBackListUptoSaid : Prop := fnBackListUptoRow.holds Tryz.pinned (OpenSpec.upto fnBackListSpec)

end Rows
end Go.Proofs.YthdogflpbpkbeaaGreatDoor
