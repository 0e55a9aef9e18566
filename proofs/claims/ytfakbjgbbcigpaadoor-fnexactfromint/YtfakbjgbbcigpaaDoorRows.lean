/-
  NARROWER THAN 'FOR EVERY INPUT', by the rows' own cells (each row's printed sentence says how): FnExactCompare: laid · FnExactMinimum: laid · FnExactMaximum: laid · FnExactToInt: laid · FnExactFromInt: laid · FnOrder: laid · FnExactConvert: laid · FnExactRoundInt: laid.
  DERIVED. THE GIVEN ROWS OF THIS SEAT. 8 by the template 'for every input the law returns true; each argument reads behind the call as it read before'; 0 by the template 'total and deterministic' (their statements: YtfakbjgbbcigpaaDoorTotals.lean).
  GIVEN WITH THE SEED: the statements are not yours to turn. If you find one false, say at which input.
  Laid BY PROGRAM, IN A SANDBOX (cutbox-rows.mjs): the forced cells as the released guide's own fill.sh prints them over the translation e9c50413639bb4f4… (all of the seat's roots in one cut). By AI agents, Wed Nov 11 2026. No macro, syntax, notation, axiom, sorry.
-/
import Derived.Test.YtfakbjgbbcigpaaDoorChecked
import GoSem.Claim
import GoSem.ClaimJoined
import GoSem.ClaimMapViews
import Derived.JoinedTies
import Derived.KernelRfl
namespace Go.Proofs.YtfakbjgbbcigpaaDoor
/- THE CELL 'sum', in the pinned program and in every row, IS THE sha256 OF THE DUMP (.gsa) THAT YtfakbjgbbcigpaaDoorProg.lean LOADS. Nothing in Lean hashes anything: it is a label: what it is worth is what the hold of that sum in a sandbox is worth. -/
noncomputable def Tryd.pinned : Pinned := { name := "ytfakbjgbbcigpaadoor", sum := "e9c50413639bb4f40aa503fe7c75805bfc7a7e6ff2e842e500b52697deeb11f1", checked := Tryd.checked }
namespace Rows
def none {H : Type} : Left H := { results := [], args := [] }

/- WHAT THE LISTED PACKAGE-LEVEL VARIABLES READ AS WHEN THE CALL BEGINS. Each datum BY PROGRAM (the guide's laid-datum.mjs) off the statement by which the dump's own 'gosem.cut.vars' lays the variable. In a bare row this is a premise. The card (YtfakbjgbbcigpaaDoorCards.lean) ties it to the program's text. -/
def laid_loop_example_s01330_impl_formats {H : Type} : DataW H := .agg [.agg [.lit (.int .i64 24), .lit (.int .i64 (-126)), .lit (.int .i64 127)], .agg [.lit (.int .i64 53), .lit (.int .i64 (-1022)), .lit (.int .i64 1023)]]

/-- 'laws.FnExactCompare': WHATEVER THE INPUT: true; the input reads as it did. -/
def fnExactCompareSpec : ChangeSpec := { name := "fnExactCompare", vars := ["loop.example/s01330/impl.formats"], fn := fun _ => fun
  | [d1, d2, d3, d4, g1] => { results := [.lit (.bool true)], args := [d1, d2, d3, d4], vars := [g1] }
  | _ => none }
def fnExactCompareRow : OpenClaim := { program := "ytfakbjgbbcigpaadoor", sum := "e9c50413639bb4f40aa503fe7c75805bfc7a7e6ff2e842e500b52697deeb11f1", func := "loop.example/s01330/laws.FnExactCompare", spec := "fnExactCompare", named := ["loop.example/s01330/impl.formats"], apart := false, laid := [("loop.example/s01330/impl.formats", laid_loop_example_s01330_impl_formats)] }
def FnExactCompareSaid : Prop := fnExactCompareRow.holds Tryd.pinned (OpenSpec.ofChange fnExactCompareSpec)

/-- ITS FALSE NEIGHBOUR: 'it returns false'. Refute it at one input. -/
def fnExactCompareWrong : ChangeSpec := { name := "fnExactCompare", vars := ["loop.example/s01330/impl.formats"], fn := fun _ => fun
  | [d1, d2, d3, d4, g1] => { results := [.lit (.bool false)], args := [d1, d2, d3, d4], vars := [g1] }
  | _ => none }
def FnExactCompareWrongFalsely : Prop := fnExactCompareRow.holds Tryd.pinned (OpenSpec.ofChange fnExactCompareWrong)

/-- 'laws.FnExactMinimum': WHATEVER THE INPUT: true; the input reads as it did. -/
def fnExactMinimumSpec : ChangeSpec := { name := "fnExactMinimum", vars := ["loop.example/s01330/impl.formats"], fn := fun _ => fun
  | [d1, d2, d3, g1] => { results := [.lit (.bool true)], args := [d1, d2, d3], vars := [g1] }
  | _ => none }
def fnExactMinimumRow : OpenClaim := { program := "ytfakbjgbbcigpaadoor", sum := "e9c50413639bb4f40aa503fe7c75805bfc7a7e6ff2e842e500b52697deeb11f1", func := "loop.example/s01330/laws.FnExactMinimum", spec := "fnExactMinimum", unfollowed := true, recurses := true, named := ["loop.example/s01330/impl.formats"], apart := false, laid := [("loop.example/s01330/impl.formats", laid_loop_example_s01330_impl_formats)] }
def FnExactMinimumSaid : Prop := fnExactMinimumRow.holds Tryd.pinned (OpenSpec.ofChange fnExactMinimumSpec)

/-- ITS FALSE NEIGHBOUR: 'it returns false'. Refute it at one input. -/
def fnExactMinimumWrong : ChangeSpec := { name := "fnExactMinimum", vars := ["loop.example/s01330/impl.formats"], fn := fun _ => fun
  | [d1, d2, d3, g1] => { results := [.lit (.bool false)], args := [d1, d2, d3], vars := [g1] }
  | _ => none }
def FnExactMinimumWrongFalsely : Prop := fnExactMinimumRow.holds Tryd.pinned (OpenSpec.ofChange fnExactMinimumWrong)

/-- 'laws.FnExactMaximum': WHATEVER THE INPUT: true; the input reads as it did. -/
def fnExactMaximumSpec : ChangeSpec := { name := "fnExactMaximum", vars := ["loop.example/s01330/impl.formats"], fn := fun _ => fun
  | [d1, d2, d3, g1] => { results := [.lit (.bool true)], args := [d1, d2, d3], vars := [g1] }
  | _ => none }
def fnExactMaximumRow : OpenClaim := { program := "ytfakbjgbbcigpaadoor", sum := "e9c50413639bb4f40aa503fe7c75805bfc7a7e6ff2e842e500b52697deeb11f1", func := "loop.example/s01330/laws.FnExactMaximum", spec := "fnExactMaximum", unfollowed := true, recurses := true, named := ["loop.example/s01330/impl.formats"], apart := false, laid := [("loop.example/s01330/impl.formats", laid_loop_example_s01330_impl_formats)] }
def FnExactMaximumSaid : Prop := fnExactMaximumRow.holds Tryd.pinned (OpenSpec.ofChange fnExactMaximumSpec)

/-- ITS FALSE NEIGHBOUR: 'it returns false'. Refute it at one input. -/
def fnExactMaximumWrong : ChangeSpec := { name := "fnExactMaximum", vars := ["loop.example/s01330/impl.formats"], fn := fun _ => fun
  | [d1, d2, d3, g1] => { results := [.lit (.bool false)], args := [d1, d2, d3], vars := [g1] }
  | _ => none }
def FnExactMaximumWrongFalsely : Prop := fnExactMaximumRow.holds Tryd.pinned (OpenSpec.ofChange fnExactMaximumWrong)

/-- 'laws.FnExactToInt': WHATEVER THE INPUT: true; the input reads as it did. -/
def fnExactToIntSpec : ChangeSpec := { name := "fnExactToInt", vars := ["loop.example/s01330/impl.formats"], fn := fun _ => fun
  | [d1, d2, d3, d4, g1] => { results := [.lit (.bool true)], args := [d1, d2, d3, d4], vars := [g1] }
  | _ => none }
def fnExactToIntRow : OpenClaim := { program := "ytfakbjgbbcigpaadoor", sum := "e9c50413639bb4f40aa503fe7c75805bfc7a7e6ff2e842e500b52697deeb11f1", func := "loop.example/s01330/laws.FnExactToInt", spec := "fnExactToInt", unfollowed := true, recurses := true, named := ["loop.example/s01330/impl.formats"], apart := false, laid := [("loop.example/s01330/impl.formats", laid_loop_example_s01330_impl_formats)] }
def FnExactToIntSaid : Prop := fnExactToIntRow.holds Tryd.pinned (OpenSpec.ofChange fnExactToIntSpec)

/-- ITS FALSE NEIGHBOUR: 'it returns false'. Refute it at one input. -/
def fnExactToIntWrong : ChangeSpec := { name := "fnExactToInt", vars := ["loop.example/s01330/impl.formats"], fn := fun _ => fun
  | [d1, d2, d3, d4, g1] => { results := [.lit (.bool false)], args := [d1, d2, d3, d4], vars := [g1] }
  | _ => none }
def FnExactToIntWrongFalsely : Prop := fnExactToIntRow.holds Tryd.pinned (OpenSpec.ofChange fnExactToIntWrong)

/-- 'laws.FnExactFromInt': WHATEVER THE INPUT: true; the input reads as it did. -/
def fnExactFromIntSpec : ChangeSpec := { name := "fnExactFromInt", vars := ["loop.example/s01330/impl.formats"], fn := fun _ => fun
  | [d1, d2, d3, d4, g1] => { results := [.lit (.bool true)], args := [d1, d2, d3, d4], vars := [g1] }
  | _ => none }
def fnExactFromIntRow : OpenClaim := { program := "ytfakbjgbbcigpaadoor", sum := "e9c50413639bb4f40aa503fe7c75805bfc7a7e6ff2e842e500b52697deeb11f1", func := "loop.example/s01330/laws.FnExactFromInt", spec := "fnExactFromInt", unfollowed := true, recurses := true, named := ["loop.example/s01330/impl.formats"], apart := false, laid := [("loop.example/s01330/impl.formats", laid_loop_example_s01330_impl_formats)] }
def FnExactFromIntSaid : Prop := fnExactFromIntRow.holds Tryd.pinned (OpenSpec.ofChange fnExactFromIntSpec)

/-- ITS FALSE NEIGHBOUR: 'it returns false'. Refute it at one input. -/
def fnExactFromIntWrong : ChangeSpec := { name := "fnExactFromInt", vars := ["loop.example/s01330/impl.formats"], fn := fun _ => fun
  | [d1, d2, d3, d4, g1] => { results := [.lit (.bool false)], args := [d1, d2, d3, d4], vars := [g1] }
  | _ => none }
def FnExactFromIntWrongFalsely : Prop := fnExactFromIntRow.holds Tryd.pinned (OpenSpec.ofChange fnExactFromIntWrong)

/-- 'laws.FnOrder': WHATEVER THE INPUT: true; the input reads as it did. -/
def fnOrderSpec : ChangeSpec := { name := "fnOrder", vars := ["loop.example/s01330/impl.formats"], fn := fun _ => fun
  | [d, g1] => { results := [.lit (.bool true)], args := [d], vars := [g1] }
  | _ => none }
def fnOrderRow : OpenClaim := { program := "ytfakbjgbbcigpaadoor", sum := "e9c50413639bb4f40aa503fe7c75805bfc7a7e6ff2e842e500b52697deeb11f1", func := "loop.example/s01330/laws.FnOrder", spec := "fnOrder", unfollowed := true, recurses := true, named := ["loop.example/s01330/impl.formats"], apart := false, laid := [("loop.example/s01330/impl.formats", laid_loop_example_s01330_impl_formats)] }
def FnOrderSaid : Prop := fnOrderRow.holds Tryd.pinned (OpenSpec.ofChange fnOrderSpec)

/-- ITS FALSE NEIGHBOUR: 'it returns false'. Refute it at one input. -/
def fnOrderWrong : ChangeSpec := { name := "fnOrder", vars := ["loop.example/s01330/impl.formats"], fn := fun _ => fun
  | [d, g1] => { results := [.lit (.bool false)], args := [d], vars := [g1] }
  | _ => none }
def FnOrderWrongFalsely : Prop := fnOrderRow.holds Tryd.pinned (OpenSpec.ofChange fnOrderWrong)

/-- 'laws.FnExactConvert': WHATEVER THE INPUT: true; the input reads as it did. -/
def fnExactConvertSpec : ChangeSpec := { name := "fnExactConvert", vars := ["loop.example/s01330/impl.formats"], fn := fun _ => fun
  | [d1, d2, d3, d4, g1] => { results := [.lit (.bool true)], args := [d1, d2, d3, d4], vars := [g1] }
  | _ => none }
def fnExactConvertRow : OpenClaim := { program := "ytfakbjgbbcigpaadoor", sum := "e9c50413639bb4f40aa503fe7c75805bfc7a7e6ff2e842e500b52697deeb11f1", func := "loop.example/s01330/laws.FnExactConvert", spec := "fnExactConvert", unfollowed := true, recurses := true, named := ["loop.example/s01330/impl.formats"], apart := false, laid := [("loop.example/s01330/impl.formats", laid_loop_example_s01330_impl_formats)] }
def FnExactConvertSaid : Prop := fnExactConvertRow.holds Tryd.pinned (OpenSpec.ofChange fnExactConvertSpec)

/-- ITS FALSE NEIGHBOUR: 'it returns false'. Refute it at one input. -/
def fnExactConvertWrong : ChangeSpec := { name := "fnExactConvert", vars := ["loop.example/s01330/impl.formats"], fn := fun _ => fun
  | [d1, d2, d3, d4, g1] => { results := [.lit (.bool false)], args := [d1, d2, d3, d4], vars := [g1] }
  | _ => none }
def FnExactConvertWrongFalsely : Prop := fnExactConvertRow.holds Tryd.pinned (OpenSpec.ofChange fnExactConvertWrong)

/-- 'laws.FnExactRoundInt': WHATEVER THE INPUT: true; the input reads as it did. -/
def fnExactRoundIntSpec : ChangeSpec := { name := "fnExactRoundInt", vars := ["loop.example/s01330/impl.formats"], fn := fun _ => fun
  | [d1, d2, d3, d4, g1] => { results := [.lit (.bool true)], args := [d1, d2, d3, d4], vars := [g1] }
  | _ => none }
def fnExactRoundIntRow : OpenClaim := { program := "ytfakbjgbbcigpaadoor", sum := "e9c50413639bb4f40aa503fe7c75805bfc7a7e6ff2e842e500b52697deeb11f1", func := "loop.example/s01330/laws.FnExactRoundInt", spec := "fnExactRoundInt", unfollowed := true, recurses := true, named := ["loop.example/s01330/impl.formats"], apart := false, laid := [("loop.example/s01330/impl.formats", laid_loop_example_s01330_impl_formats)] }
def FnExactRoundIntSaid : Prop := fnExactRoundIntRow.holds Tryd.pinned (OpenSpec.ofChange fnExactRoundIntSpec)

/-- ITS FALSE NEIGHBOUR: 'it returns false'. Refute it at one input. -/
def fnExactRoundIntWrong : ChangeSpec := { name := "fnExactRoundInt", vars := ["loop.example/s01330/impl.formats"], fn := fun _ => fun
  | [d1, d2, d3, d4, g1] => { results := [.lit (.bool false)], args := [d1, d2, d3, d4], vars := [g1] }
  | _ => none }
def FnExactRoundIntWrongFalsely : Prop := fnExactRoundIntRow.holds Tryd.pinned (OpenSpec.ofChange fnExactRoundIntWrong)

/- THE SECOND FORM. 'bulk': how many values and letters a reading holds, each counted each time it is reached (what is shared counts as often as it is met; a slice's spare places count too). A statement '..UptoSaid' is the law's where the arguments, and the package variables that the reading takes, are together of bulk at most 1048576: NARROWER than '..Said'. Prove '..Said' where nothing that the law and all that it calls make is longer than what came in: it says more and counts as full. Else prove '..UptoSaid'. A law counts once. -/
mutual
def uptoBulk {H : Type} : DataW H → Nat
  | .lit (.string bytes) => bytes.length + 1
  | .lit _ => 1
  | .nil => 1
  | .ptr d => uptoBulk d + 1
  | .slice elems spare => uptoBulkAll elems + uptoBulkAll spare + 1
  | .agg parts => uptoBulkAll parts + 1
  | .iface _ d => uptoBulk d + 1
  | .map entries => uptoBulkEntries entries + 1
  | .held _ => 1
def uptoBulkAll {H : Type} : List (DataW H) → Nat
  | [] => 0
  | d :: r => uptoBulk d + uptoBulkAll r
def uptoBulkEntries {H : Type} : List (Lit × DataW H) → Nat
  | [] => 0
  | x :: r => uptoBulkEntry x + uptoBulkEntries r
def uptoBulkEntry {H : Type} : Lit × DataW H → Nat
  | (.string bytes, d) => bytes.length + uptoBulk d + 1
  | (_, d) => uptoBulk d + 1
 end
def uptoSmall : (H : Type) → List (DataW H) → Bool := fun _ ds => decide (uptoBulkAll ds ≤ 1048576)
def OpenSpec.upto (s : _root_.Go.ChangeSpec) : _root_.Go.OpenSpec := { _root_.Go.OpenSpec.ofChange s with cond := some uptoSmall }

/-- 'laws.FnExactCompare', WHERE WHAT IT READS IS OF BULK AT MOST 1048576: true; the input reads as it did. -/
def fnExactCompareUptoRow : OpenClaim := { program := "ytfakbjgbbcigpaadoor", sum := "e9c50413639bb4f40aa503fe7c75805bfc7a7e6ff2e842e500b52697deeb11f1", func := "loop.example/s01330/laws.FnExactCompare", spec := "fnExactCompare", named := ["loop.example/s01330/impl.formats"], apart := false, laid := [("loop.example/s01330/impl.formats", laid_loop_example_s01330_impl_formats)], narrowed := true }
def FnExactCompareUptoSaid : Prop := fnExactCompareUptoRow.holds Tryd.pinned (OpenSpec.upto fnExactCompareSpec)

/-- 'laws.FnExactMinimum', WHERE WHAT IT READS IS OF BULK AT MOST 1048576: true; the input reads as it did. -/
def fnExactMinimumUptoRow : OpenClaim := { program := "ytfakbjgbbcigpaadoor", sum := "e9c50413639bb4f40aa503fe7c75805bfc7a7e6ff2e842e500b52697deeb11f1", func := "loop.example/s01330/laws.FnExactMinimum", spec := "fnExactMinimum", unfollowed := true, recurses := true, named := ["loop.example/s01330/impl.formats"], apart := false, laid := [("loop.example/s01330/impl.formats", laid_loop_example_s01330_impl_formats)], narrowed := true }
def FnExactMinimumUptoSaid : Prop := fnExactMinimumUptoRow.holds Tryd.pinned (OpenSpec.upto fnExactMinimumSpec)

/-- 'laws.FnExactMaximum', WHERE WHAT IT READS IS OF BULK AT MOST 1048576: true; the input reads as it did. -/
def fnExactMaximumUptoRow : OpenClaim := { program := "ytfakbjgbbcigpaadoor", sum := "e9c50413639bb4f40aa503fe7c75805bfc7a7e6ff2e842e500b52697deeb11f1", func := "loop.example/s01330/laws.FnExactMaximum", spec := "fnExactMaximum", unfollowed := true, recurses := true, named := ["loop.example/s01330/impl.formats"], apart := false, laid := [("loop.example/s01330/impl.formats", laid_loop_example_s01330_impl_formats)], narrowed := true }
def FnExactMaximumUptoSaid : Prop := fnExactMaximumUptoRow.holds Tryd.pinned (OpenSpec.upto fnExactMaximumSpec)

/-- 'laws.FnExactToInt', WHERE WHAT IT READS IS OF BULK AT MOST 1048576: true; the input reads as it did. -/
def fnExactToIntUptoRow : OpenClaim := { program := "ytfakbjgbbcigpaadoor", sum := "e9c50413639bb4f40aa503fe7c75805bfc7a7e6ff2e842e500b52697deeb11f1", func := "loop.example/s01330/laws.FnExactToInt", spec := "fnExactToInt", unfollowed := true, recurses := true, named := ["loop.example/s01330/impl.formats"], apart := false, laid := [("loop.example/s01330/impl.formats", laid_loop_example_s01330_impl_formats)], narrowed := true }
def FnExactToIntUptoSaid : Prop := fnExactToIntUptoRow.holds Tryd.pinned (OpenSpec.upto fnExactToIntSpec)

/-- 'laws.FnExactFromInt', WHERE WHAT IT READS IS OF BULK AT MOST 1048576: true; the input reads as it did. -/
def fnExactFromIntUptoRow : OpenClaim := { program := "ytfakbjgbbcigpaadoor", sum := "e9c50413639bb4f40aa503fe7c75805bfc7a7e6ff2e842e500b52697deeb11f1", func := "loop.example/s01330/laws.FnExactFromInt", spec := "fnExactFromInt", unfollowed := true, recurses := true, named := ["loop.example/s01330/impl.formats"], apart := false, laid := [("loop.example/s01330/impl.formats", laid_loop_example_s01330_impl_formats)], narrowed := true }
def FnExactFromIntUptoSaid : Prop := fnExactFromIntUptoRow.holds Tryd.pinned (OpenSpec.upto fnExactFromIntSpec)

/-- 'laws.FnOrder', WHERE WHAT IT READS IS OF BULK AT MOST 1048576: true; the input reads as it did. -/
def fnOrderUptoRow : OpenClaim := { program := "ytfakbjgbbcigpaadoor", sum := "e9c50413639bb4f40aa503fe7c75805bfc7a7e6ff2e842e500b52697deeb11f1", func := "loop.example/s01330/laws.FnOrder", spec := "fnOrder", unfollowed := true, recurses := true, named := ["loop.example/s01330/impl.formats"], apart := false, laid := [("loop.example/s01330/impl.formats", laid_loop_example_s01330_impl_formats)], narrowed := true }
def FnOrderUptoSaid : Prop := fnOrderUptoRow.holds Tryd.pinned (OpenSpec.upto fnOrderSpec)

/-- 'laws.FnExactConvert', WHERE WHAT IT READS IS OF BULK AT MOST 1048576: true; the input reads as it did. -/
def fnExactConvertUptoRow : OpenClaim := { program := "ytfakbjgbbcigpaadoor", sum := "e9c50413639bb4f40aa503fe7c75805bfc7a7e6ff2e842e500b52697deeb11f1", func := "loop.example/s01330/laws.FnExactConvert", spec := "fnExactConvert", unfollowed := true, recurses := true, named := ["loop.example/s01330/impl.formats"], apart := false, laid := [("loop.example/s01330/impl.formats", laid_loop_example_s01330_impl_formats)], narrowed := true }
def FnExactConvertUptoSaid : Prop := fnExactConvertUptoRow.holds Tryd.pinned (OpenSpec.upto fnExactConvertSpec)

/-- 'laws.FnExactRoundInt', WHERE WHAT IT READS IS OF BULK AT MOST 1048576: true; the input reads as it did. -/
def fnExactRoundIntUptoRow : OpenClaim := { program := "ytfakbjgbbcigpaadoor", sum := "e9c50413639bb4f40aa503fe7c75805bfc7a7e6ff2e842e500b52697deeb11f1", func := "loop.example/s01330/laws.FnExactRoundInt", spec := "fnExactRoundInt", unfollowed := true, recurses := true, named := ["loop.example/s01330/impl.formats"], apart := false, laid := [("loop.example/s01330/impl.formats", laid_loop_example_s01330_impl_formats)], narrowed := true }
def FnExactRoundIntUptoSaid : Prop := fnExactRoundIntUptoRow.holds Tryd.pinned (OpenSpec.upto fnExactRoundIntSpec)

end Rows
end Go.Proofs.YtfakbjgbbcigpaaDoor
