/-
  NARROWER THAN 'FOR EVERY INPUT', by the rows' own cells (each row's printed sentence says how): FnInts: laid · FnWhole: laid.
  DERIVED. THE GIVEN ROWS OF THIS SEAT. 2 by the template 'for every input the law returns true; each argument reads behind the call as it read before'; 0 by the template 'total and deterministic' (their statements: YtfakbjgbbcigpaaGreatDoorTotals.lean).
  GIVEN WITH THE SEED: the statements are not yours to turn. If you find one false, say at which input.
  Laid BY PROGRAM, IN A SANDBOX (cutbox-rows.mjs): the forced cells as the released guide's own fill.sh prints them over the translation dd3916efb5dbccb1… (all of the seat's roots in one cut). By AI agents, Wed Nov 11 2026. No macro, syntax, notation, axiom, sorry.
-/
import Derived.Test.YtfakbjgbbcigpaaGreatDoorChecked
import GoSem.Claim
import GoSem.ClaimJoined
import GoSem.ClaimMapViews
import Derived.JoinedTies
import Derived.KernelRfl
namespace Go.Proofs.YtfakbjgbbcigpaaGreatDoor
/- THE CELL 'sum', in the pinned program and in every row, IS THE sha256 OF THE DUMP (.gsa) THAT YtfakbjgbbcigpaaGreatDoorProg.lean LOADS. Nothing in Lean hashes anything: it is a label: what it is worth is what the hold of that sum in a sandbox is worth. -/
noncomputable def Tryz.pinned : Pinned := { name := "ytfakbjgbbcigpaagreatdoor", sum := "dd3916efb5dbccb1eea403707854e618f0cba33f6974df528738b4b8dd3b13da", checked := Tryz.checked }
namespace Rows
def none {H : Type} : Left H := { results := [], args := [] }

/- WHAT THE LISTED PACKAGE-LEVEL VARIABLES READ AS WHEN THE CALL BEGINS. Each datum BY PROGRAM (the guide's laid-datum.mjs) off the statement by which the dump's own 'gosem.cut.vars' lays the variable. In a bare row this is a premise. The card (YtfakbjgbbcigpaaGreatDoorCards.lean) ties it to the program's text. -/
def laid_loop_example_s01330_impl_formats {H : Type} : DataW H := .agg [.agg [.lit (.int .i64 24), .lit (.int .i64 (-126)), .lit (.int .i64 127)], .agg [.lit (.int .i64 53), .lit (.int .i64 (-1022)), .lit (.int .i64 1023)]]

/-- 'laws.FnInts': WHATEVER THE INPUT: true; the input reads as it did. -/
def fnIntsSpec : ChangeSpec := { name := "fnInts", vars := ["loop.example/s01330/impl.formats"], fn := fun _ => fun
  | [d, g1] => { results := [.lit (.bool true)], args := [d], vars := [g1] }
  | _ => none }
def fnIntsRow : OpenClaim := { program := "ytfakbjgbbcigpaagreatdoor", sum := "dd3916efb5dbccb1eea403707854e618f0cba33f6974df528738b4b8dd3b13da", func := "loop.example/s01330/laws.FnInts", spec := "fnInts", unfollowed := true, recurses := true, named := ["loop.example/s01330/impl.formats"], apart := false, laid := [("loop.example/s01330/impl.formats", laid_loop_example_s01330_impl_formats)] }
def FnIntsSaid : Prop := fnIntsRow.holds Tryz.pinned (OpenSpec.ofChange fnIntsSpec)

/-- ITS FALSE NEIGHBOUR: 'it returns false'. Refute it at one input. -/
def fnIntsWrong : ChangeSpec := { name := "fnInts", vars := ["loop.example/s01330/impl.formats"], fn := fun _ => fun
  | [d, g1] => { results := [.lit (.bool false)], args := [d], vars := [g1] }
  | _ => none }
def FnIntsWrongFalsely : Prop := fnIntsRow.holds Tryz.pinned (OpenSpec.ofChange fnIntsWrong)

/-- 'laws.FnWhole': WHATEVER THE INPUT: true; the input reads as it did. -/
def fnWholeSpec : ChangeSpec := { name := "fnWhole", vars := ["loop.example/s01330/impl.formats"], fn := fun _ => fun
  | [d, g1] => { results := [.lit (.bool true)], args := [d], vars := [g1] }
  | _ => none }
def fnWholeRow : OpenClaim := { program := "ytfakbjgbbcigpaagreatdoor", sum := "dd3916efb5dbccb1eea403707854e618f0cba33f6974df528738b4b8dd3b13da", func := "loop.example/s01330/laws.FnWhole", spec := "fnWhole", unfollowed := true, recurses := true, named := ["loop.example/s01330/impl.formats"], apart := false, laid := [("loop.example/s01330/impl.formats", laid_loop_example_s01330_impl_formats)] }
def FnWholeSaid : Prop := fnWholeRow.holds Tryz.pinned (OpenSpec.ofChange fnWholeSpec)

/-- ITS FALSE NEIGHBOUR: 'it returns false'. Refute it at one input. -/
def fnWholeWrong : ChangeSpec := { name := "fnWhole", vars := ["loop.example/s01330/impl.formats"], fn := fun _ => fun
  | [d, g1] => { results := [.lit (.bool false)], args := [d], vars := [g1] }
  | _ => none }
def FnWholeWrongFalsely : Prop := fnWholeRow.holds Tryz.pinned (OpenSpec.ofChange fnWholeWrong)

/- THE SECOND FORM. 'bulk': how many values and letters a reading holds, each counted each time it is reached (what is shared counts as often as it is met; a slice's spare places count too). A statement '..UptoSaid' is the law's where the arguments, and the package variables that the reading takes, are together of bulk at most 1048576: NARROWER than '..Said'. Prove '..Said' where nothing that the law and all that it calls make is longer than what came in: it says more and counts as full. Else prove '..UptoSaid'. A law counts once. -/
mutual
def uptoBulk {H : Type} : DataW H → Nat
  | .lit (.string bytes) => bytes.length + 1
  | .lit _ => 1
  | .nil => 1
  | .ptr d => uptoBulk d + 1
  | .slice elems spare => uptoBulkAll elems + uptoBulkAll spare + 1
  | .agg parts => uptoBulkAll parts + 1
  | .iface _ d => uptoBulk d + 1
  | .map entries => uptoBulkEntries entries + 1
  | .held _ => 1
def uptoBulkAll {H : Type} : List (DataW H) → Nat
  | [] => 0
  | d :: r => uptoBulk d + uptoBulkAll r
def uptoBulkEntries {H : Type} : List (Lit × DataW H) → Nat
  | [] => 0
  | x :: r => uptoBulkEntry x + uptoBulkEntries r
def uptoBulkEntry {H : Type} : Lit × DataW H → Nat
  | (.string bytes, d) => bytes.length + uptoBulk d + 1
  | (_, d) => uptoBulk d + 1
 end
def uptoSmall : (H : Type) → List (DataW H) → Bool := fun _ ds => decide (uptoBulkAll ds ≤ 1048576)
def OpenSpec.upto (s : _root_.Go.ChangeSpec) : _root_.Go.OpenSpec := { _root_.Go.OpenSpec.ofChange s with cond := some uptoSmall }

/-- 'laws.FnInts', WHERE WHAT IT READS IS OF BULK AT MOST 1048576: true; the input reads as it did. -/
def fnIntsUptoRow : OpenClaim := { program := "ytfakbjgbbcigpaagreatdoor", sum := "dd3916efb5dbccb1eea403707854e618f0cba33f6974df528738b4b8dd3b13da", func := "loop.example/s01330/laws.FnInts", spec := "fnInts", unfollowed := true, recurses := true, named := ["loop.example/s01330/impl.formats"], apart := false, laid := [("loop.example/s01330/impl.formats", laid_loop_example_s01330_impl_formats)], narrowed := true }
def FnIntsUptoSaid : Prop := fnIntsUptoRow.holds Tryz.pinned (OpenSpec.upto fnIntsSpec)

/-- 'laws.FnWhole', WHERE WHAT IT READS IS OF BULK AT MOST 1048576: true; the input reads as it did. -/
def fnWholeUptoRow : OpenClaim := { program := "ytfakbjgbbcigpaagreatdoor", sum := "dd3916efb5dbccb1eea403707854e618f0cba33f6974df528738b4b8dd3b13da", func := "loop.example/s01330/laws.FnWhole", spec := "fnWhole", unfollowed := true, recurses := true, named := ["loop.example/s01330/impl.formats"], apart := false, laid := [("loop.example/s01330/impl.formats", laid_loop_example_s01330_impl_formats)], narrowed := true }
def FnWholeUptoSaid : Prop := fnWholeUptoRow.holds Tryz.pinned (OpenSpec.upto fnWholeSpec)

end Rows
end Go.Proofs.YtfakbjgbbcigpaaGreatDoor
