/-
  NARROWER THAN 'FOR EVERY INPUT', by the rows' own cells (each row's printed sentence says how): FnElemBack: laid · FnTreeParts: laid · FnTreeSame: laid · FnNormOnce: laid · FnNormShape: laid · FnNormUses: laid · FnNormNet: laid · FnListBack: laid · FnListParse: laid · FnListLine: laid.
  DERIVED. THE GIVEN ROWS OF THIS SEAT. 10 by the template 'for every input the law returns true; each argument reads behind the call as it read before'; 0 by the template 'total and deterministic' (their statements: YtcobmkhddbaedaaGreatDoorTotals.lean).
  GIVEN WITH THE SEED: the statements are not yours to turn. If you find one false, say at which input.
  Laid BY PROGRAM, IN A SANDBOX (cutbox-rows.mjs): the forced cells as the released guide's own fill.sh prints them over the translation 9a17854e9b42cb55… (all of the seat's roots in one cut). By AI agents, Wed Nov 11 2026. No macro, syntax, notation, axiom, sorry.
-/
import Derived.Test.YtcobmkhddbaedaaGreatDoorChecked
import GoSem.PinnedTables
import GoSem.Claim
import GoSem.ClaimJoined
import GoSem.ClaimMapViews
import Derived.JoinedTies
import Derived.KernelRfl
namespace Go.Proofs.YtcobmkhddbaedaaGreatDoor
/- THE CELL 'sum', in the pinned program and in every row, IS THE sha256 OF THE DUMP (.gsa) THAT YtcobmkhddbaedaaGreatDoorProg.lean LOADS. Nothing in Lean hashes anything: it is a label: what it is worth is what the hold of that sum in a sandbox is worth. -/
noncomputable def Tryz.pinned : Pinned := { name := "ytcobmkhddbaedaagreatdoor", sum := "9a17854e9b42cb55c496cf848dffc5b4faa31adda6ebb483c0bb7ab8401e869c", checked := Tryz.checked }
namespace Rows
def none {H : Type} : Left H := { results := [], args := [] }

/- WHAT THE LISTED PACKAGE-LEVEL VARIABLES READ AS WHEN THE CALL BEGINS. Each datum BY PROGRAM (the guide's laid-datum.mjs) off the statement by which the dump's own 'gosem.cut.vars' lays the variable. In a bare row this is a premise. The card (YtcobmkhddbaedaaGreatDoorCards.lean) ties it to the program's text. -/
def laid_math_bits_deBruijn32tab {H : Type} : DataW H := .agg [.lit (.int .u8 0), .lit (.int .u8 1), .lit (.int .u8 28), .lit (.int .u8 2), .lit (.int .u8 29), .lit (.int .u8 14), .lit (.int .u8 24), .lit (.int .u8 3), .lit (.int .u8 30), .lit (.int .u8 22), .lit (.int .u8 20), .lit (.int .u8 15), .lit (.int .u8 25), .lit (.int .u8 17), .lit (.int .u8 4), .lit (.int .u8 8), .lit (.int .u8 31), .lit (.int .u8 27), .lit (.int .u8 13), .lit (.int .u8 23), .lit (.int .u8 21), .lit (.int .u8 19), .lit (.int .u8 16), .lit (.int .u8 7), .lit (.int .u8 26), .lit (.int .u8 12), .lit (.int .u8 18), .lit (.int .u8 6), .lit (.int .u8 11), .lit (.int .u8 5), .lit (.int .u8 10), .lit (.int .u8 9)]
def laid_math_bits_deBruijn64tab {H : Type} : DataW H := .agg [.lit (.int .u8 0), .lit (.int .u8 1), .lit (.int .u8 56), .lit (.int .u8 2), .lit (.int .u8 57), .lit (.int .u8 49), .lit (.int .u8 28), .lit (.int .u8 3), .lit (.int .u8 61), .lit (.int .u8 58), .lit (.int .u8 42), .lit (.int .u8 50), .lit (.int .u8 38), .lit (.int .u8 29), .lit (.int .u8 17), .lit (.int .u8 4), .lit (.int .u8 62), .lit (.int .u8 47), .lit (.int .u8 59), .lit (.int .u8 36), .lit (.int .u8 45), .lit (.int .u8 43), .lit (.int .u8 51), .lit (.int .u8 22), .lit (.int .u8 53), .lit (.int .u8 39), .lit (.int .u8 33), .lit (.int .u8 30), .lit (.int .u8 24), .lit (.int .u8 18), .lit (.int .u8 12), .lit (.int .u8 5), .lit (.int .u8 63), .lit (.int .u8 55), .lit (.int .u8 48), .lit (.int .u8 27), .lit (.int .u8 60), .lit (.int .u8 41), .lit (.int .u8 37), .lit (.int .u8 16), .lit (.int .u8 46), .lit (.int .u8 35), .lit (.int .u8 44), .lit (.int .u8 21), .lit (.int .u8 52), .lit (.int .u8 32), .lit (.int .u8 23), .lit (.int .u8 11), .lit (.int .u8 54), .lit (.int .u8 26), .lit (.int .u8 40), .lit (.int .u8 15), .lit (.int .u8 34), .lit (.int .u8 20), .lit (.int .u8 31), .lit (.int .u8 10), .lit (.int .u8 25), .lit (.int .u8 14), .lit (.int .u8 19), .lit (.int .u8 9), .lit (.int .u8 13), .lit (.int .u8 8), .lit (.int .u8 7), .lit (.int .u8 6)]
def laid_internal_strconv_uint64pow10 {H : Type} : DataW H := .agg [.lit (.int .u64 1), .lit (.int .u64 10), .lit (.int .u64 100), .lit (.int .u64 1000), .lit (.int .u64 10000), .lit (.int .u64 100000), .lit (.int .u64 1000000), .lit (.int .u64 10000000), .lit (.int .u64 100000000), .lit (.int .u64 1000000000), .lit (.int .u64 10000000000), .lit (.int .u64 100000000000), .lit (.int .u64 1000000000000), .lit (.int .u64 10000000000000), .lit (.int .u64 100000000000000), .lit (.int .u64 1000000000000000), .lit (.int .u64 10000000000000000), .lit (.int .u64 100000000000000000), .lit (.int .u64 1000000000000000000), .lit (.int .u64 10000000000000000000)]
def laid_unicode_utf8_acceptRanges {H : Type} : DataW H := .agg [.agg [.lit (.int .u8 128), .lit (.int .u8 191)], .agg [.lit (.int .u8 160), .lit (.int .u8 191)], .agg [.lit (.int .u8 128), .lit (.int .u8 159)], .agg [.lit (.int .u8 144), .lit (.int .u8 191)], .agg [.lit (.int .u8 128), .lit (.int .u8 143)], .agg [.lit (.int .u8 0), .lit (.int .u8 0)], .agg [.lit (.int .u8 0), .lit (.int .u8 0)], .agg [.lit (.int .u8 0), .lit (.int .u8 0)], .agg [.lit (.int .u8 0), .lit (.int .u8 0)], .agg [.lit (.int .u8 0), .lit (.int .u8 0)], .agg [.lit (.int .u8 0), .lit (.int .u8 0)], .agg [.lit (.int .u8 0), .lit (.int .u8 0)], .agg [.lit (.int .u8 0), .lit (.int .u8 0)], .agg [.lit (.int .u8 0), .lit (.int .u8 0)], .agg [.lit (.int .u8 0), .lit (.int .u8 0)], .agg [.lit (.int .u8 0), .lit (.int .u8 0)]]
def laid_errors_errorType {H : Type} : DataW H := .iface "internal/reflectlite.rtype" (.agg [.ptr (.lit (.string [101, 114, 114, 111, 114]))])
def laid_loop_example_stilway_impl_devRows {H : Type} : DataW H := .agg [.agg [.lit (.string []), .lit (.int .i64 0), .lit (.bool false), .lit (.bool false), .lit (.bool false)], .agg [.lit (.string [88]), .lit (.int .i64 32), .lit (.bool true), .lit (.bool false), .lit (.bool false)], .agg [.lit (.string [89]), .lit (.int .i64 32), .lit (.bool true), .lit (.bool false), .lit (.bool false)], .agg [.lit (.string [77]), .lit (.int .i64 64), .lit (.bool true), .lit (.bool false), .lit (.bool false)], .agg [.lit (.string [83]), .lit (.int .i64 16), .lit (.bool true), .lit (.bool false), .lit (.bool false)], .agg [.lit (.string [69]), .lit (.int .i64 32), .lit (.bool false), .lit (.bool false), .lit (.bool false)], .agg [.lit (.string [71]), .lit (.int .i64 5), .lit (.bool true), .lit (.bool false), .lit (.bool false)], .agg [.lit (.string [84]), .lit (.int .i64 16), .lit (.bool true), .lit (.bool true), .lit (.bool false)], .agg [.lit (.string [67]), .lit (.int .i64 16), .lit (.bool true), .lit (.bool true), .lit (.bool false)], .agg [.lit (.string [68]), .lit (.int .i64 32), .lit (.bool false), .lit (.bool true), .lit (.bool false)], .agg [.lit (.string [82]), .lit (.int .i64 16), .lit (.bool false), .lit (.bool false), .lit (.bool true)], .agg [.lit (.string []), .lit (.int .i64 0), .lit (.bool false), .lit (.bool true), .lit (.bool false)], .agg [.lit (.string []), .lit (.int .i64 0), .lit (.bool false), .lit (.bool false), .lit (.bool true)], .agg [.lit (.string []), .lit (.int .i64 0), .lit (.bool false), .lit (.bool false), .lit (.bool true)]]
def laid_loop_example_stilway_impl_devWords {H : Type} : DataW H := .agg [.lit (.string [110, 97, 110]), .lit (.string [105, 110, 102]), .lit (.string [45, 105, 110, 102]), .lit (.string [45, 48, 46, 48])]
/-- One of Go's own tables, pinned by name: the form's constant. -/
def laid_unicode_utf8_first : DataW Unit := Go.Pinned.utf8First
def laid_loop_example_stilway_impl_listWords {H : Type} : DataW H := .agg [.lit (.string []), .lit (.string [108, 100]), .lit (.string [97, 110, 100]), .lit (.string [111, 114]), .lit (.string [97, 110, 98]), .lit (.string [111, 114, 98]), .lit (.string [105, 110, 118]), .lit (.string [109, 112, 115]), .lit (.string [109, 114, 100]), .lit (.string [109, 112, 112]), .lit (.string [99, 111, 105, 108]), .lit (.string [101, 110, 100])]

/-- 'laws.FnElemBack': WHATEVER THE INPUT: true; the input reads as it did. -/
def fnElemBackSpec : ChangeSpec := { name := "fnElemBack", vars := ["loop.example/stilway/impl.devRows", "loop.example/stilway/impl.devWords"], fn := fun _ => fun
  | [d1, d2, g1, g2] => { results := [.lit (.bool true)], args := [d1, d2], vars := [g1, g2] }
  | _ => none }
def fnElemBackRow : OpenClaim := { program := "ytcobmkhddbaedaagreatdoor", sum := "9a17854e9b42cb55c496cf848dffc5b4faa31adda6ebb483c0bb7ab8401e869c", func := "loop.example/stilway/laws.FnElemBack", spec := "fnElemBack", inPlace := ["internal/abi.NoEscape", "internal/bytealg.MakeNoZero", "internal/bytealg.IndexByteString", "internal/bytealg.IndexString", "internal/bytealg.CountString", "internal/reflectlite.ValueOf", "(internal/reflectlite.Value).Type", "(internal/reflectlite.Value).IsNil", "internal/reflectlite.TypeOf", "(internal/reflectlite.Value).Elem", "(internal/reflectlite.Value).Set"], unfollowed := true, recurses := true, named := ["loop.example/stilway/impl.devRows", "loop.example/stilway/impl.devWords", "internal/strconv.uint64pow10", "math/bits.deBruijn32tab", "math/bits.deBruijn64tab", "internal/bytealg.MaxLen", "unicode/utf8.first", "unicode/utf8.acceptRanges", "errors.errorType"], apart := false, laid := [("math/bits.deBruijn32tab", laid_math_bits_deBruijn32tab), ("math/bits.deBruijn64tab", laid_math_bits_deBruijn64tab), ("internal/strconv.uint64pow10", laid_internal_strconv_uint64pow10), ("unicode/utf8.acceptRanges", laid_unicode_utf8_acceptRanges), ("errors.errorType", laid_errors_errorType), ("loop.example/stilway/impl.devRows", laid_loop_example_stilway_impl_devRows), ("loop.example/stilway/impl.devWords", laid_loop_example_stilway_impl_devWords), ("unicode/utf8.first", laid_unicode_utf8_first)] }
def FnElemBackSaid : Prop := fnElemBackRow.holds Tryz.pinned (OpenSpec.ofChange fnElemBackSpec)

/-- ITS FALSE NEIGHBOUR: 'it returns false'. Refute it at one input. -/
def fnElemBackWrong : ChangeSpec := { name := "fnElemBack", vars := ["loop.example/stilway/impl.devRows", "loop.example/stilway/impl.devWords"], fn := fun _ => fun
  | [d1, d2, g1, g2] => { results := [.lit (.bool false)], args := [d1, d2], vars := [g1, g2] }
  | _ => none }
def FnElemBackWrongFalsely : Prop := fnElemBackRow.holds Tryz.pinned (OpenSpec.ofChange fnElemBackWrong)

/-- 'laws.FnTreeParts': WHATEVER THE INPUT: true; the input reads as it did. -/
def fnTreePartsSpec : ChangeSpec := { name := "fnTreeParts", vars := ["loop.example/stilway/impl.devRows"], fn := fun _ => fun
  | [d, g1] => { results := [.lit (.bool true)], args := [d], vars := [g1] }
  | _ => none }
def fnTreePartsRow : OpenClaim := { program := "ytcobmkhddbaedaagreatdoor", sum := "9a17854e9b42cb55c496cf848dffc5b4faa31adda6ebb483c0bb7ab8401e869c", func := "loop.example/stilway/laws.FnTreeParts", spec := "fnTreeParts", inPlace := ["internal/abi.NoEscape", "internal/bytealg.MakeNoZero", "internal/reflectlite.ValueOf", "(internal/reflectlite.Value).Type", "(internal/reflectlite.Value).IsNil", "internal/reflectlite.TypeOf", "(internal/reflectlite.Value).Elem", "(internal/reflectlite.Value).Set"], unfollowed := true, recurses := true, named := ["loop.example/stilway/impl.devRows", "errors.errorType"], apart := false, laid := [("errors.errorType", laid_errors_errorType), ("loop.example/stilway/impl.devRows", laid_loop_example_stilway_impl_devRows)] }
def FnTreePartsSaid : Prop := fnTreePartsRow.holds Tryz.pinned (OpenSpec.ofChange fnTreePartsSpec)

/-- ITS FALSE NEIGHBOUR: 'it returns false'. Refute it at one input. -/
def fnTreePartsWrong : ChangeSpec := { name := "fnTreeParts", vars := ["loop.example/stilway/impl.devRows"], fn := fun _ => fun
  | [d, g1] => { results := [.lit (.bool false)], args := [d], vars := [g1] }
  | _ => none }
def FnTreePartsWrongFalsely : Prop := fnTreePartsRow.holds Tryz.pinned (OpenSpec.ofChange fnTreePartsWrong)

/-- 'laws.FnTreeSame': WHATEVER THE INPUT: true; the input reads as it did. -/
def fnTreeSameSpec : ChangeSpec := { name := "fnTreeSame", vars := ["loop.example/stilway/impl.devRows"], fn := fun _ => fun
  | [d1, d2, g1] => { results := [.lit (.bool true)], args := [d1, d2], vars := [g1] }
  | _ => none }
def fnTreeSameRow : OpenClaim := { program := "ytcobmkhddbaedaagreatdoor", sum := "9a17854e9b42cb55c496cf848dffc5b4faa31adda6ebb483c0bb7ab8401e869c", func := "loop.example/stilway/laws.FnTreeSame", spec := "fnTreeSame", inPlace := ["internal/abi.NoEscape", "internal/bytealg.MakeNoZero", "internal/reflectlite.ValueOf", "(internal/reflectlite.Value).Type", "(internal/reflectlite.Value).IsNil", "internal/reflectlite.TypeOf", "(internal/reflectlite.Value).Elem", "(internal/reflectlite.Value).Set"], unfollowed := true, recurses := true, named := ["loop.example/stilway/impl.devRows", "errors.errorType"], apart := false, laid := [("errors.errorType", laid_errors_errorType), ("loop.example/stilway/impl.devRows", laid_loop_example_stilway_impl_devRows)] }
def FnTreeSameSaid : Prop := fnTreeSameRow.holds Tryz.pinned (OpenSpec.ofChange fnTreeSameSpec)

/-- ITS FALSE NEIGHBOUR: 'it returns false'. Refute it at one input. -/
def fnTreeSameWrong : ChangeSpec := { name := "fnTreeSame", vars := ["loop.example/stilway/impl.devRows"], fn := fun _ => fun
  | [d1, d2, g1] => { results := [.lit (.bool false)], args := [d1, d2], vars := [g1] }
  | _ => none }
def FnTreeSameWrongFalsely : Prop := fnTreeSameRow.holds Tryz.pinned (OpenSpec.ofChange fnTreeSameWrong)

/-- 'laws.FnNormOnce': WHATEVER THE INPUT: true; the input reads as it did. -/
def fnNormOnceSpec : ChangeSpec := { name := "fnNormOnce", vars := ["loop.example/stilway/impl.devRows"], fn := fun _ => fun
  | [d, g1] => { results := [.lit (.bool true)], args := [d], vars := [g1] }
  | _ => none }
def fnNormOnceRow : OpenClaim := { program := "ytcobmkhddbaedaagreatdoor", sum := "9a17854e9b42cb55c496cf848dffc5b4faa31adda6ebb483c0bb7ab8401e869c", func := "loop.example/stilway/laws.FnNormOnce", spec := "fnNormOnce", inPlace := ["internal/abi.NoEscape", "internal/bytealg.MakeNoZero", "internal/reflectlite.ValueOf", "(internal/reflectlite.Value).Type", "(internal/reflectlite.Value).IsNil", "internal/reflectlite.TypeOf", "(internal/reflectlite.Value).Elem", "(internal/reflectlite.Value).Set"], unfollowed := true, recurses := true, named := ["loop.example/stilway/impl.devRows", "errors.errorType"], apart := false, laid := [("errors.errorType", laid_errors_errorType), ("loop.example/stilway/impl.devRows", laid_loop_example_stilway_impl_devRows)] }
def FnNormOnceSaid : Prop := fnNormOnceRow.holds Tryz.pinned (OpenSpec.ofChange fnNormOnceSpec)

/-- ITS FALSE NEIGHBOUR: 'it returns false'. Refute it at one input. -/
def fnNormOnceWrong : ChangeSpec := { name := "fnNormOnce", vars := ["loop.example/stilway/impl.devRows"], fn := fun _ => fun
  | [d, g1] => { results := [.lit (.bool false)], args := [d], vars := [g1] }
  | _ => none }
def FnNormOnceWrongFalsely : Prop := fnNormOnceRow.holds Tryz.pinned (OpenSpec.ofChange fnNormOnceWrong)

/-- 'laws.FnNormShape': WHATEVER THE INPUT: true; the input reads as it did. -/
def fnNormShapeSpec : ChangeSpec := { name := "fnNormShape", vars := ["loop.example/stilway/impl.devRows"], fn := fun _ => fun
  | [d, g1] => { results := [.lit (.bool true)], args := [d], vars := [g1] }
  | _ => none }
def fnNormShapeRow : OpenClaim := { program := "ytcobmkhddbaedaagreatdoor", sum := "9a17854e9b42cb55c496cf848dffc5b4faa31adda6ebb483c0bb7ab8401e869c", func := "loop.example/stilway/laws.FnNormShape", spec := "fnNormShape", inPlace := ["internal/abi.NoEscape", "internal/bytealg.MakeNoZero", "internal/reflectlite.ValueOf", "(internal/reflectlite.Value).Type", "(internal/reflectlite.Value).IsNil", "internal/reflectlite.TypeOf", "(internal/reflectlite.Value).Elem", "(internal/reflectlite.Value).Set"], unfollowed := true, recurses := true, named := ["loop.example/stilway/impl.devRows", "errors.errorType"], apart := false, laid := [("errors.errorType", laid_errors_errorType), ("loop.example/stilway/impl.devRows", laid_loop_example_stilway_impl_devRows)] }
def FnNormShapeSaid : Prop := fnNormShapeRow.holds Tryz.pinned (OpenSpec.ofChange fnNormShapeSpec)

/-- ITS FALSE NEIGHBOUR: 'it returns false'. Refute it at one input. -/
def fnNormShapeWrong : ChangeSpec := { name := "fnNormShape", vars := ["loop.example/stilway/impl.devRows"], fn := fun _ => fun
  | [d, g1] => { results := [.lit (.bool false)], args := [d], vars := [g1] }
  | _ => none }
def FnNormShapeWrongFalsely : Prop := fnNormShapeRow.holds Tryz.pinned (OpenSpec.ofChange fnNormShapeWrong)

/-- 'laws.FnNormUses': WHATEVER THE INPUT: true; the input reads as it did. -/
def fnNormUsesSpec : ChangeSpec := { name := "fnNormUses", vars := ["loop.example/stilway/impl.devRows"], fn := fun _ => fun
  | [d1, d2, g1] => { results := [.lit (.bool true)], args := [d1, d2], vars := [g1] }
  | _ => none }
def fnNormUsesRow : OpenClaim := { program := "ytcobmkhddbaedaagreatdoor", sum := "9a17854e9b42cb55c496cf848dffc5b4faa31adda6ebb483c0bb7ab8401e869c", func := "loop.example/stilway/laws.FnNormUses", spec := "fnNormUses", inPlace := ["internal/abi.NoEscape", "internal/bytealg.MakeNoZero", "internal/reflectlite.ValueOf", "(internal/reflectlite.Value).Type", "(internal/reflectlite.Value).IsNil", "internal/reflectlite.TypeOf", "(internal/reflectlite.Value).Elem", "(internal/reflectlite.Value).Set"], unfollowed := true, recurses := true, named := ["loop.example/stilway/impl.devRows", "errors.errorType"], apart := false, laid := [("errors.errorType", laid_errors_errorType), ("loop.example/stilway/impl.devRows", laid_loop_example_stilway_impl_devRows)] }
def FnNormUsesSaid : Prop := fnNormUsesRow.holds Tryz.pinned (OpenSpec.ofChange fnNormUsesSpec)

/-- ITS FALSE NEIGHBOUR: 'it returns false'. Refute it at one input. -/
def fnNormUsesWrong : ChangeSpec := { name := "fnNormUses", vars := ["loop.example/stilway/impl.devRows"], fn := fun _ => fun
  | [d1, d2, g1] => { results := [.lit (.bool false)], args := [d1, d2], vars := [g1] }
  | _ => none }
def FnNormUsesWrongFalsely : Prop := fnNormUsesRow.holds Tryz.pinned (OpenSpec.ofChange fnNormUsesWrong)

/-- 'laws.FnNormNet': WHATEVER THE INPUT: true; the input reads as it did. -/
def fnNormNetSpec : ChangeSpec := { name := "fnNormNet", vars := ["loop.example/stilway/impl.devRows"], fn := fun _ => fun
  | [d, g1] => { results := [.lit (.bool true)], args := [d], vars := [g1] }
  | _ => none }
def fnNormNetRow : OpenClaim := { program := "ytcobmkhddbaedaagreatdoor", sum := "9a17854e9b42cb55c496cf848dffc5b4faa31adda6ebb483c0bb7ab8401e869c", func := "loop.example/stilway/laws.FnNormNet", spec := "fnNormNet", inPlace := ["internal/abi.NoEscape", "internal/bytealg.MakeNoZero", "internal/reflectlite.ValueOf", "(internal/reflectlite.Value).Type", "(internal/reflectlite.Value).IsNil", "internal/reflectlite.TypeOf", "(internal/reflectlite.Value).Elem", "(internal/reflectlite.Value).Set"], unfollowed := true, recurses := true, named := ["loop.example/stilway/impl.devRows", "errors.errorType"], apart := false, laid := [("errors.errorType", laid_errors_errorType), ("loop.example/stilway/impl.devRows", laid_loop_example_stilway_impl_devRows)] }
def FnNormNetSaid : Prop := fnNormNetRow.holds Tryz.pinned (OpenSpec.ofChange fnNormNetSpec)

/-- ITS FALSE NEIGHBOUR: 'it returns false'. Refute it at one input. -/
def fnNormNetWrong : ChangeSpec := { name := "fnNormNet", vars := ["loop.example/stilway/impl.devRows"], fn := fun _ => fun
  | [d, g1] => { results := [.lit (.bool false)], args := [d], vars := [g1] }
  | _ => none }
def FnNormNetWrongFalsely : Prop := fnNormNetRow.holds Tryz.pinned (OpenSpec.ofChange fnNormNetWrong)

/-- 'laws.FnListBack': WHATEVER THE INPUT: true; the input reads as it did. -/
def fnListBackSpec : ChangeSpec := { name := "fnListBack", vars := ["loop.example/stilway/impl.devRows", "loop.example/stilway/impl.listWords", "loop.example/stilway/impl.devWords"], fn := fun _ => fun
  | [d, g1, g2, g3] => { results := [.lit (.bool true)], args := [d], vars := [g1, g2, g3] }
  | _ => none }
def fnListBackRow : OpenClaim := { program := "ytcobmkhddbaedaagreatdoor", sum := "9a17854e9b42cb55c496cf848dffc5b4faa31adda6ebb483c0bb7ab8401e869c", func := "loop.example/stilway/laws.FnListBack", spec := "fnListBack", inPlace := ["internal/abi.NoEscape", "internal/bytealg.MakeNoZero", "internal/bytealg.CountString", "internal/bytealg.IndexByteString", "internal/bytealg.IndexString", "internal/reflectlite.ValueOf", "(internal/reflectlite.Value).Type", "(internal/reflectlite.Value).IsNil", "internal/reflectlite.TypeOf", "(internal/reflectlite.Value).Elem", "(internal/reflectlite.Value).Set"], unfollowed := true, recurses := true, named := ["loop.example/stilway/impl.devRows", "loop.example/stilway/impl.listWords", "loop.example/stilway/impl.devWords", "internal/strconv.uint64pow10", "math/bits.deBruijn32tab", "math/bits.deBruijn64tab", "unicode/utf8.first", "unicode/utf8.acceptRanges", "internal/bytealg.MaxLen", "errors.errorType"], apart := false, laid := [("math/bits.deBruijn32tab", laid_math_bits_deBruijn32tab), ("math/bits.deBruijn64tab", laid_math_bits_deBruijn64tab), ("internal/strconv.uint64pow10", laid_internal_strconv_uint64pow10), ("unicode/utf8.acceptRanges", laid_unicode_utf8_acceptRanges), ("errors.errorType", laid_errors_errorType), ("loop.example/stilway/impl.devRows", laid_loop_example_stilway_impl_devRows), ("loop.example/stilway/impl.devWords", laid_loop_example_stilway_impl_devWords), ("loop.example/stilway/impl.listWords", laid_loop_example_stilway_impl_listWords), ("unicode/utf8.first", laid_unicode_utf8_first)] }
def FnListBackSaid : Prop := fnListBackRow.holds Tryz.pinned (OpenSpec.ofChange fnListBackSpec)

/-- ITS FALSE NEIGHBOUR: 'it returns false'. Refute it at one input. -/
def fnListBackWrong : ChangeSpec := { name := "fnListBack", vars := ["loop.example/stilway/impl.devRows", "loop.example/stilway/impl.listWords", "loop.example/stilway/impl.devWords"], fn := fun _ => fun
  | [d, g1, g2, g3] => { results := [.lit (.bool false)], args := [d], vars := [g1, g2, g3] }
  | _ => none }
def FnListBackWrongFalsely : Prop := fnListBackRow.holds Tryz.pinned (OpenSpec.ofChange fnListBackWrong)

/-- 'laws.FnListParse': WHATEVER THE INPUT: true; the input reads as it did. -/
def fnListParseSpec : ChangeSpec := { name := "fnListParse", vars := ["loop.example/stilway/impl.listWords", "loop.example/stilway/impl.devRows", "loop.example/stilway/impl.devWords"], fn := fun _ => fun
  | [d, g1, g2, g3] => { results := [.lit (.bool true)], args := [d], vars := [g1, g2, g3] }
  | _ => none }
def fnListParseRow : OpenClaim := { program := "ytcobmkhddbaedaagreatdoor", sum := "9a17854e9b42cb55c496cf848dffc5b4faa31adda6ebb483c0bb7ab8401e869c", func := "loop.example/stilway/laws.FnListParse", spec := "fnListParse", inPlace := ["internal/bytealg.CountString", "internal/bytealg.IndexByteString", "internal/bytealg.IndexString", "internal/abi.NoEscape", "internal/bytealg.MakeNoZero", "internal/reflectlite.ValueOf", "(internal/reflectlite.Value).Type", "(internal/reflectlite.Value).IsNil", "internal/reflectlite.TypeOf", "(internal/reflectlite.Value).Elem", "(internal/reflectlite.Value).Set"], unfollowed := true, recurses := true, named := ["unicode/utf8.first", "unicode/utf8.acceptRanges", "internal/bytealg.MaxLen", "loop.example/stilway/impl.listWords", "loop.example/stilway/impl.devRows", "loop.example/stilway/impl.devWords", "internal/strconv.uint64pow10", "math/bits.deBruijn32tab", "math/bits.deBruijn64tab", "errors.errorType"], apart := false, laid := [("math/bits.deBruijn32tab", laid_math_bits_deBruijn32tab), ("math/bits.deBruijn64tab", laid_math_bits_deBruijn64tab), ("internal/strconv.uint64pow10", laid_internal_strconv_uint64pow10), ("unicode/utf8.acceptRanges", laid_unicode_utf8_acceptRanges), ("errors.errorType", laid_errors_errorType), ("loop.example/stilway/impl.devRows", laid_loop_example_stilway_impl_devRows), ("loop.example/stilway/impl.devWords", laid_loop_example_stilway_impl_devWords), ("loop.example/stilway/impl.listWords", laid_loop_example_stilway_impl_listWords), ("unicode/utf8.first", laid_unicode_utf8_first)] }
def FnListParseSaid : Prop := fnListParseRow.holds Tryz.pinned (OpenSpec.ofChange fnListParseSpec)

/-- ITS FALSE NEIGHBOUR: 'it returns false'. Refute it at one input. -/
def fnListParseWrong : ChangeSpec := { name := "fnListParse", vars := ["loop.example/stilway/impl.listWords", "loop.example/stilway/impl.devRows", "loop.example/stilway/impl.devWords"], fn := fun _ => fun
  | [d, g1, g2, g3] => { results := [.lit (.bool false)], args := [d], vars := [g1, g2, g3] }
  | _ => none }
def FnListParseWrongFalsely : Prop := fnListParseRow.holds Tryz.pinned (OpenSpec.ofChange fnListParseWrong)

/-- 'laws.FnListLine': WHATEVER THE INPUT: true; the input reads as it did. -/
def fnListLineSpec : ChangeSpec := { name := "fnListLine", vars := ["loop.example/stilway/impl.devRows", "loop.example/stilway/impl.listWords", "loop.example/stilway/impl.devWords"], fn := fun _ => fun
  | [d, g1, g2, g3] => { results := [.lit (.bool true)], args := [d], vars := [g1, g2, g3] }
  | _ => none }
def fnListLineRow : OpenClaim := { program := "ytcobmkhddbaedaagreatdoor", sum := "9a17854e9b42cb55c496cf848dffc5b4faa31adda6ebb483c0bb7ab8401e869c", func := "loop.example/stilway/laws.FnListLine", spec := "fnListLine", inPlace := ["internal/abi.NoEscape", "internal/bytealg.MakeNoZero", "internal/bytealg.CountString", "internal/bytealg.IndexByteString", "internal/bytealg.IndexString", "internal/reflectlite.ValueOf", "(internal/reflectlite.Value).Type", "(internal/reflectlite.Value).IsNil", "internal/reflectlite.TypeOf", "(internal/reflectlite.Value).Elem", "(internal/reflectlite.Value).Set"], unfollowed := true, recurses := true, named := ["loop.example/stilway/impl.devRows", "loop.example/stilway/impl.listWords", "loop.example/stilway/impl.devWords", "internal/strconv.uint64pow10", "math/bits.deBruijn32tab", "math/bits.deBruijn64tab", "unicode/utf8.first", "unicode/utf8.acceptRanges", "internal/bytealg.MaxLen", "errors.errorType"], apart := false, laid := [("math/bits.deBruijn32tab", laid_math_bits_deBruijn32tab), ("math/bits.deBruijn64tab", laid_math_bits_deBruijn64tab), ("internal/strconv.uint64pow10", laid_internal_strconv_uint64pow10), ("unicode/utf8.acceptRanges", laid_unicode_utf8_acceptRanges), ("errors.errorType", laid_errors_errorType), ("loop.example/stilway/impl.devRows", laid_loop_example_stilway_impl_devRows), ("loop.example/stilway/impl.devWords", laid_loop_example_stilway_impl_devWords), ("loop.example/stilway/impl.listWords", laid_loop_example_stilway_impl_listWords), ("unicode/utf8.first", laid_unicode_utf8_first)] }
def FnListLineSaid : Prop := fnListLineRow.holds Tryz.pinned (OpenSpec.ofChange fnListLineSpec)

/-- ITS FALSE NEIGHBOUR: 'it returns false'. Refute it at one input. -/
def fnListLineWrong : ChangeSpec := { name := "fnListLine", vars := ["loop.example/stilway/impl.devRows", "loop.example/stilway/impl.listWords", "loop.example/stilway/impl.devWords"], fn := fun _ => fun
  | [d, g1, g2, g3] => { results := [.lit (.bool false)], args := [d], vars := [g1, g2, g3] }
  | _ => none }
def FnListLineWrongFalsely : Prop := fnListLineRow.holds Tryz.pinned (OpenSpec.ofChange fnListLineWrong)

/- THE SECOND FORM. 'bulk': how many values and letters a reading holds, each counted each time it is reached (what is shared counts as often as it is met; a slice's spare places count too). A statement '..UptoSaid' is the law's where the arguments, and the package variables that the reading takes, are together of bulk at most 1048576: NARROWER than '..Said'. Prove '..Said' where nothing that the law and all that it calls make is longer than what came in: it says more and counts as full. Else prove '..UptoSaid'. A law counts once. -/
mutual
def uptoBulk {H : Type} : DataW H → Nat
  | .lit (.string bytes) => bytes.length + 1
  | .lit _ => 1
  | .nil => 1
  | .ptr d => uptoBulk d + 1
  | .slice elems spare => uptoBulkAll elems + uptoBulkAll spare + 1
  | .agg parts => uptoBulkAll parts + 1
  | .iface _ d => uptoBulk d + 1
  | .map entries => uptoBulkEntries entries + 1
  | .held _ => 1
def uptoBulkAll {H : Type} : List (DataW H) → Nat
  | [] => 0
  | d :: r => uptoBulk d + uptoBulkAll r
def uptoBulkEntries {H : Type} : List (Lit × DataW H) → Nat
  | [] => 0
  | x :: r => uptoBulkEntry x + uptoBulkEntries r
def uptoBulkEntry {H : Type} : Lit × DataW H → Nat
  | (.string bytes, d) => bytes.length + uptoBulk d + 1
  | (_, d) => uptoBulk d + 1
 end
def uptoSmall : (H : Type) → List (DataW H) → Bool := fun _ ds => decide (uptoBulkAll ds ≤ 1048576)
def OpenSpec.upto (s : _root_.Go.ChangeSpec) : _root_.Go.OpenSpec := { _root_.Go.OpenSpec.ofChange s with cond := some uptoSmall }

/-- 'laws.FnElemBack', WHERE WHAT IT READS IS OF BULK AT MOST 1048576: true; the input reads as it did. -/
def fnElemBackUptoRow : OpenClaim := { program := "ytcobmkhddbaedaagreatdoor", sum := "9a17854e9b42cb55c496cf848dffc5b4faa31adda6ebb483c0bb7ab8401e869c", func := "loop.example/stilway/laws.FnElemBack", spec := "fnElemBack", inPlace := ["internal/abi.NoEscape", "internal/bytealg.MakeNoZero", "internal/bytealg.IndexByteString", "internal/bytealg.IndexString", "internal/bytealg.CountString", "internal/reflectlite.ValueOf", "(internal/reflectlite.Value).Type", "(internal/reflectlite.Value).IsNil", "internal/reflectlite.TypeOf", "(internal/reflectlite.Value).Elem", "(internal/reflectlite.Value).Set"], unfollowed := true, recurses := true, named := ["loop.example/stilway/impl.devRows", "loop.example/stilway/impl.devWords", "internal/strconv.uint64pow10", "math/bits.deBruijn32tab", "math/bits.deBruijn64tab", "internal/bytealg.MaxLen", "unicode/utf8.first", "unicode/utf8.acceptRanges", "errors.errorType"], apart := false, laid := [("math/bits.deBruijn32tab", laid_math_bits_deBruijn32tab), ("math/bits.deBruijn64tab", laid_math_bits_deBruijn64tab), ("internal/strconv.uint64pow10", laid_internal_strconv_uint64pow10), ("unicode/utf8.acceptRanges", laid_unicode_utf8_acceptRanges), ("errors.errorType", laid_errors_errorType), ("loop.example/stilway/impl.devRows", laid_loop_example_stilway_impl_devRows), ("loop.example/stilway/impl.devWords", laid_loop_example_stilway_impl_devWords), ("unicode/utf8.first", laid_unicode_utf8_first)], narrowed := true }
def FnElemBackUptoSaid : Prop := fnElemBackUptoRow.holds Tryz.pinned (OpenSpec.upto fnElemBackSpec)

/-- 'laws.FnTreeParts', WHERE WHAT IT READS IS OF BULK AT MOST 1048576: true; the input reads as it did. -/
def fnTreePartsUptoRow : OpenClaim := { program := "ytcobmkhddbaedaagreatdoor", sum := "9a17854e9b42cb55c496cf848dffc5b4faa31adda6ebb483c0bb7ab8401e869c", func := "loop.example/stilway/laws.FnTreeParts", spec := "fnTreeParts", inPlace := ["internal/abi.NoEscape", "internal/bytealg.MakeNoZero", "internal/reflectlite.ValueOf", "(internal/reflectlite.Value).Type", "(internal/reflectlite.Value).IsNil", "internal/reflectlite.TypeOf", "(internal/reflectlite.Value).Elem", "(internal/reflectlite.Value).Set"], unfollowed := true, recurses := true, named := ["loop.example/stilway/impl.devRows", "errors.errorType"], apart := false, laid := [("errors.errorType", laid_errors_errorType), ("loop.example/stilway/impl.devRows", laid_loop_example_stilway_impl_devRows)], narrowed := true }
def FnTreePartsUptoSaid : Prop := fnTreePartsUptoRow.holds Tryz.pinned (OpenSpec.upto fnTreePartsSpec)

/-- 'laws.FnTreeSame', WHERE WHAT IT READS IS OF BULK AT MOST 1048576: true; the input reads as it did. -/
def fnTreeSameUptoRow : OpenClaim := { program := "ytcobmkhddbaedaagreatdoor", sum := "9a17854e9b42cb55c496cf848dffc5b4faa31adda6ebb483c0bb7ab8401e869c", func := "loop.example/stilway/laws.FnTreeSame", spec := "fnTreeSame", inPlace := ["internal/abi.NoEscape", "internal/bytealg.MakeNoZero", "internal/reflectlite.ValueOf", "(internal/reflectlite.Value).Type", "(internal/reflectlite.Value).IsNil", "internal/reflectlite.TypeOf", "(internal/reflectlite.Value).Elem", "(internal/reflectlite.Value).Set"], unfollowed := true, recurses := true, named := ["loop.example/stilway/impl.devRows", "errors.errorType"], apart := false, laid := [("errors.errorType", laid_errors_errorType), ("loop.example/stilway/impl.devRows", laid_loop_example_stilway_impl_devRows)], narrowed := true }
def FnTreeSameUptoSaid : Prop := fnTreeSameUptoRow.holds Tryz.pinned (OpenSpec.upto fnTreeSameSpec)

/-- 'laws.FnNormOnce', WHERE WHAT IT READS IS OF BULK AT MOST 1048576: true; the input reads as it did. -/
def fnNormOnceUptoRow : OpenClaim := { program := "ytcobmkhddbaedaagreatdoor", sum := "9a17854e9b42cb55c496cf848dffc5b4faa31adda6ebb483c0bb7ab8401e869c", func := "loop.example/stilway/laws.FnNormOnce", spec := "fnNormOnce", inPlace := ["internal/abi.NoEscape", "internal/bytealg.MakeNoZero", "internal/reflectlite.ValueOf", "(internal/reflectlite.Value).Type", "(internal/reflectlite.Value).IsNil", "internal/reflectlite.TypeOf", "(internal/reflectlite.Value).Elem", "(internal/reflectlite.Value).Set"], unfollowed := true, recurses := true, named := ["loop.example/stilway/impl.devRows", "errors.errorType"], apart := false, laid := [("errors.errorType", laid_errors_errorType), ("loop.example/stilway/impl.devRows", laid_loop_example_stilway_impl_devRows)], narrowed := true }
def FnNormOnceUptoSaid : Prop := fnNormOnceUptoRow.holds Tryz.pinned (OpenSpec.upto fnNormOnceSpec)

/-- 'laws.FnNormShape', WHERE WHAT IT READS IS OF BULK AT MOST 1048576: true; the input reads as it did. -/
def fnNormShapeUptoRow : OpenClaim := { program := "ytcobmkhddbaedaagreatdoor", sum := "9a17854e9b42cb55c496cf848dffc5b4faa31adda6ebb483c0bb7ab8401e869c", func := "loop.example/stilway/laws.FnNormShape", spec := "fnNormShape", inPlace := ["internal/abi.NoEscape", "internal/bytealg.MakeNoZero", "internal/reflectlite.ValueOf", "(internal/reflectlite.Value).Type", "(internal/reflectlite.Value).IsNil", "internal/reflectlite.TypeOf", "(internal/reflectlite.Value).Elem", "(internal/reflectlite.Value).Set"], unfollowed := true, recurses := true, named := ["loop.example/stilway/impl.devRows", "errors.errorType"], apart := false, laid := [("errors.errorType", laid_errors_errorType), ("loop.example/stilway/impl.devRows", laid_loop_example_stilway_impl_devRows)], narrowed := true }
def FnNormShapeUptoSaid : Prop := fnNormShapeUptoRow.holds Tryz.pinned (OpenSpec.upto fnNormShapeSpec)

/-- 'laws.FnNormUses', WHERE WHAT IT READS IS OF BULK AT MOST 1048576: true; the input reads as it did. -/
def fnNormUsesUptoRow : OpenClaim := { program := "ytcobmkhddbaedaagreatdoor", sum := "9a17854e9b42cb55c496cf848dffc5b4faa31adda6ebb483c0bb7ab8401e869c", func := "loop.example/stilway/laws.FnNormUses", spec := "fnNormUses", inPlace := ["internal/abi.NoEscape", "internal/bytealg.MakeNoZero", "internal/reflectlite.ValueOf", "(internal/reflectlite.Value).Type", "(internal/reflectlite.Value).IsNil", "internal/reflectlite.TypeOf", "(internal/reflectlite.Value).Elem", "(internal/reflectlite.Value).Set"], unfollowed := true, recurses := true, named := ["loop.example/stilway/impl.devRows", "errors.errorType"], apart := false, laid := [("errors.errorType", laid_errors_errorType), ("loop.example/stilway/impl.devRows", laid_loop_example_stilway_impl_devRows)], narrowed := true }
def FnNormUsesUptoSaid : Prop := fnNormUsesUptoRow.holds Tryz.pinned (OpenSpec.upto fnNormUsesSpec)

/-- 'laws.FnNormNet', WHERE WHAT IT READS IS OF BULK AT MOST 1048576: true; the input reads as it did. -/
def fnNormNetUptoRow : OpenClaim := { program := "ytcobmkhddbaedaagreatdoor", sum := "9a17854e9b42cb55c496cf848dffc5b4faa31adda6ebb483c0bb7ab8401e869c", func := "loop.example/stilway/laws.FnNormNet", spec := "fnNormNet", inPlace := ["internal/abi.NoEscape", "internal/bytealg.MakeNoZero", "internal/reflectlite.ValueOf", "(internal/reflectlite.Value).Type", "(internal/reflectlite.Value).IsNil", "internal/reflectlite.TypeOf", "(internal/reflectlite.Value).Elem", "(internal/reflectlite.Value).Set"], unfollowed := true, recurses := true, named := ["loop.example/stilway/impl.devRows", "errors.errorType"], apart := false, laid := [("errors.errorType", laid_errors_errorType), ("loop.example/stilway/impl.devRows", laid_loop_example_stilway_impl_devRows)], narrowed := true }
def FnNormNetUptoSaid : Prop := fnNormNetUptoRow.holds Tryz.pinned (OpenSpec.upto fnNormNetSpec)

/-- 'laws.FnListBack', WHERE WHAT IT READS IS OF BULK AT MOST 1048576: true; the input reads as it did. -/
def fnListBackUptoRow : OpenClaim := { program := "ytcobmkhddbaedaagreatdoor", sum := "9a17854e9b42cb55c496cf848dffc5b4faa31adda6ebb483c0bb7ab8401e869c", func := "loop.example/stilway/laws.FnListBack", spec := "fnListBack", inPlace := ["internal/abi.NoEscape", "internal/bytealg.MakeNoZero", "internal/bytealg.CountString", "internal/bytealg.IndexByteString", "internal/bytealg.IndexString", "internal/reflectlite.ValueOf", "(internal/reflectlite.Value).Type", "(internal/reflectlite.Value).IsNil", "internal/reflectlite.TypeOf", "(internal/reflectlite.Value).Elem", "(internal/reflectlite.Value).Set"], unfollowed := true, recurses := true, named := ["loop.example/stilway/impl.devRows", "loop.example/stilway/impl.listWords", "loop.example/stilway/impl.devWords", "internal/strconv.uint64pow10", "math/bits.deBruijn32tab", "math/bits.deBruijn64tab", "unicode/utf8.first", "unicode/utf8.acceptRanges", "internal/bytealg.MaxLen", "errors.errorType"], apart := false, laid := [("math/bits.deBruijn32tab", laid_math_bits_deBruijn32tab), ("math/bits.deBruijn64tab", laid_math_bits_deBruijn64tab), ("internal/strconv.uint64pow10", laid_internal_strconv_uint64pow10), ("unicode/utf8.acceptRanges", laid_unicode_utf8_acceptRanges), ("errors.errorType", laid_errors_errorType), ("loop.example/stilway/impl.devRows", laid_loop_example_stilway_impl_devRows), ("loop.example/stilway/impl.devWords", laid_loop_example_stilway_impl_devWords), ("loop.example/stilway/impl.listWords", laid_loop_example_stilway_impl_listWords), ("unicode/utf8.first", laid_unicode_utf8_first)], narrowed := true }
def FnListBackUptoSaid : Prop := fnListBackUptoRow.holds Tryz.pinned (OpenSpec.upto fnListBackSpec)

/-- 'laws.FnListParse', WHERE WHAT IT READS IS OF BULK AT MOST 1048576: true; the input reads as it did. -/
def fnListParseUptoRow : OpenClaim := { program := "ytcobmkhddbaedaagreatdoor", sum := "9a17854e9b42cb55c496cf848dffc5b4faa31adda6ebb483c0bb7ab8401e869c", func := "loop.example/stilway/laws.FnListParse", spec := "fnListParse", inPlace := ["internal/bytealg.CountString", "internal/bytealg.IndexByteString", "internal/bytealg.IndexString", "internal/abi.NoEscape", "internal/bytealg.MakeNoZero", "internal/reflectlite.ValueOf", "(internal/reflectlite.Value).Type", "(internal/reflectlite.Value).IsNil", "internal/reflectlite.TypeOf", "(internal/reflectlite.Value).Elem", "(internal/reflectlite.Value).Set"], unfollowed := true, recurses := true, named := ["unicode/utf8.first", "unicode/utf8.acceptRanges", "internal/bytealg.MaxLen", "loop.example/stilway/impl.listWords", "loop.example/stilway/impl.devRows", "loop.example/stilway/impl.devWords", "internal/strconv.uint64pow10", "math/bits.deBruijn32tab", "math/bits.deBruijn64tab", "errors.errorType"], apart := false, laid := [("math/bits.deBruijn32tab", laid_math_bits_deBruijn32tab), ("math/bits.deBruijn64tab", laid_math_bits_deBruijn64tab), ("internal/strconv.uint64pow10", laid_internal_strconv_uint64pow10), ("unicode/utf8.acceptRanges", laid_unicode_utf8_acceptRanges), ("errors.errorType", laid_errors_errorType), ("loop.example/stilway/impl.devRows", laid_loop_example_stilway_impl_devRows), ("loop.example/stilway/impl.devWords", laid_loop_example_stilway_impl_devWords), ("loop.example/stilway/impl.listWords", laid_loop_example_stilway_impl_listWords), ("unicode/utf8.first", laid_unicode_utf8_first)], narrowed := true }
def FnListParseUptoSaid : Prop := fnListParseUptoRow.holds Tryz.pinned (OpenSpec.upto fnListParseSpec)

/-- 'laws.FnListLine', WHERE WHAT IT READS IS OF BULK AT MOST 1048576: true; the input reads as it did. -/
def fnListLineUptoRow : OpenClaim := { program := "ytcobmkhddbaedaagreatdoor", sum := "9a17854e9b42cb55c496cf848dffc5b4faa31adda6ebb483c0bb7ab8401e869c", func := "loop.example/stilway/laws.FnListLine", spec := "fnListLine", inPlace := ["internal/abi.NoEscape", "internal/bytealg.MakeNoZero", "internal/bytealg.CountString", "internal/bytealg.IndexByteString", "internal/bytealg.IndexString", "internal/reflectlite.ValueOf", "(internal/reflectlite.Value).Type", "(internal/reflectlite.Value).IsNil", "internal/reflectlite.TypeOf", "(internal/reflectlite.Value).Elem", "(internal/reflectlite.Value).Set"], unfollowed := true, recurses := true, named := ["loop.example/stilway/impl.devRows", "loop.example/stilway/impl.listWords", "loop.example/stilway/impl.devWords", "internal/strconv.uint64pow10", "math/bits.deBruijn32tab", "math/bits.deBruijn64tab", "unicode/utf8.first", "unicode/utf8.acceptRanges", "internal/bytealg.MaxLen", "errors.errorType"], apart := false, laid := [("math/bits.deBruijn32tab", laid_math_bits_deBruijn32tab), ("math/bits.deBruijn64tab", laid_math_bits_deBruijn64tab), ("internal/strconv.uint64pow10", laid_internal_strconv_uint64pow10), ("unicode/utf8.acceptRanges", laid_unicode_utf8_acceptRanges), ("errors.errorType", laid_errors_errorType), ("loop.example/stilway/impl.devRows", laid_loop_example_stilway_impl_devRows), ("loop.example/stilway/impl.devWords", laid_loop_example_stilway_impl_devWords), ("loop.example/stilway/impl.listWords", laid_loop_example_stilway_impl_listWords), ("unicode/utf8.first", laid_unicode_utf8_first)], narrowed := true }
def FnListLineUptoSaid : Prop := fnListLineUptoRow.holds Tryz.pinned (OpenSpec.upto fnListLineSpec)

end Rows
end Go.Proofs.YtcobmkhddbaedaaGreatDoor
