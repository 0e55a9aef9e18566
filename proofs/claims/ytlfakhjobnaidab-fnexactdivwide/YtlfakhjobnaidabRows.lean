/-
  No cell of these rows narrows 'for every input' (looked for: loops, veiled, ifaces, maps, wideKeys, modest, calm, conditions, laid).
  DERIVED. THE GIVEN ROWS OF THIS SEAT. 3 by the template 'for every input the law returns true; each argument reads behind the call as it read before'; 0 by the template 'total and deterministic' (their statements: YtlfakhjobnaidabTotals.lean).
  GIVEN WITH THE SEED: the statements are not yours to turn. If you find one false, say at which input.
  Laid BY PROGRAM, IN A SANDBOX (cutbox-rows.mjs): the forced cells as the released guide's own fill.sh prints them over the translation 803ae6d078805f55… (all of the seat's roots in one cut). By AI agents, Wed Nov 11 2026. No macro, syntax, notation, axiom, sorry.
-/
import Derived.Test.YtlfakhjobnaidabChecked
import GoSem.Claim
import GoSem.ClaimJoined
import GoSem.ClaimMapViews
import Derived.JoinedTies
import Derived.KernelRfl
namespace Go.Proofs.Ytlfakhjobnaidab
/- THE CELL 'sum', in the pinned program and in every row, IS THE sha256 OF THE DUMP (.gsa) THAT YtlfakhjobnaidabProg.lean LOADS. Nothing in Lean hashes anything: it is a label: what it is worth is what the hold of that sum in a sandbox is worth. -/
noncomputable def Try.pinned : Pinned := { name := "ytlfakhjobnaidab", sum := "803ae6d078805f5529cef834ab5cfb22e01738aad1efd50eb363bd1b282e032c", checked := Try.checked }
namespace Rows
def none {H : Type} : Left H := { results := [], args := [] }

/-- 'laws.FnExactSubWide': WHATEVER THE INPUT: true; the input reads as it did. -/
def fnExactSubWideSpec : ChangeSpec := { name := "fnExactSubWide", fn := fun _ => fun
  | [d1, d2] => { results := [.lit (.bool true)], args := [d1, d2] }
  | _ => none }
def fnExactSubWideRow : OpenClaim := { program := "ytlfakhjobnaidab", sum := "803ae6d078805f5529cef834ab5cfb22e01738aad1efd50eb363bd1b282e032c", func := "loop.example/s01330/laws.FnExactSubWide", spec := "fnExactSubWide", inPlace := ["math/bits.Sub64"], apart := false }
def FnExactSubWideSaid : Prop := fnExactSubWideRow.holds Try.pinned (OpenSpec.ofChange fnExactSubWideSpec)

/-- ITS FALSE NEIGHBOUR: 'it returns false'. Refute it at one input. -/
def fnExactSubWideWrong : ChangeSpec := { name := "fnExactSubWide", fn := fun _ => fun
  | [d1, d2] => { results := [.lit (.bool false)], args := [d1, d2] }
  | _ => none }
def FnExactSubWideWrongFalsely : Prop := fnExactSubWideRow.holds Try.pinned (OpenSpec.ofChange fnExactSubWideWrong)

/-- 'laws.FnExactSqrtWide': WHATEVER THE INPUT: true; the input reads as it did. -/
def fnExactSqrtWideSpec : ChangeSpec := { name := "fnExactSqrtWide", fn := fun _ => fun
  | [d] => { results := [.lit (.bool true)], args := [d] }
  | _ => none }
def fnExactSqrtWideRow : OpenClaim := { program := "ytlfakhjobnaidab", sum := "803ae6d078805f5529cef834ab5cfb22e01738aad1efd50eb363bd1b282e032c", func := "loop.example/s01330/laws.FnExactSqrtWide", spec := "fnExactSqrtWide", inPlace := ["math/bits.Add64", "math/bits.Sub64"], apart := false }
def FnExactSqrtWideSaid : Prop := fnExactSqrtWideRow.holds Try.pinned (OpenSpec.ofChange fnExactSqrtWideSpec)

/-- ITS FALSE NEIGHBOUR: 'it returns false'. Refute it at one input. -/
def fnExactSqrtWideWrong : ChangeSpec := { name := "fnExactSqrtWide", fn := fun _ => fun
  | [d] => { results := [.lit (.bool false)], args := [d] }
  | _ => none }
def FnExactSqrtWideWrongFalsely : Prop := fnExactSqrtWideRow.holds Try.pinned (OpenSpec.ofChange fnExactSqrtWideWrong)

/-- 'laws.FnExactDivWide': WHATEVER THE INPUT: true; the input reads as it did. -/
def fnExactDivWideSpec : ChangeSpec := { name := "fnExactDivWide", fn := fun _ => fun
  | [d1, d2] => { results := [.lit (.bool true)], args := [d1, d2] }
  | _ => none }
def fnExactDivWideRow : OpenClaim := { program := "ytlfakhjobnaidab", sum := "803ae6d078805f5529cef834ab5cfb22e01738aad1efd50eb363bd1b282e032c", func := "loop.example/s01330/laws.FnExactDivWide", spec := "fnExactDivWide", named := ["math/bits.divideError", "math/bits.overflowError"], apart := false }
def FnExactDivWideSaid : Prop := fnExactDivWideRow.holds Try.pinned (OpenSpec.ofChange fnExactDivWideSpec)

/-- ITS FALSE NEIGHBOUR: 'it returns false'. Refute it at one input. -/
def fnExactDivWideWrong : ChangeSpec := { name := "fnExactDivWide", fn := fun _ => fun
  | [d1, d2] => { results := [.lit (.bool false)], args := [d1, d2] }
  | _ => none }
def FnExactDivWideWrongFalsely : Prop := fnExactDivWideRow.holds Try.pinned (OpenSpec.ofChange fnExactDivWideWrong)

/- THE SECOND FORM. 'bulk': how many values and letters a reading holds, each counted each time it is reached (what is shared counts as often as it is met; a slice's spare places count too). A statement '..UptoSaid' is the law's where the arguments, and the package variables that the reading takes, are together of bulk at most 1048576: NARROWER than '..Said'. Prove '..Said' where nothing that the law and all that it calls make is longer than what came in: it says more and counts as full. Else prove '..UptoSaid'. A law counts once. -/
mutual
def uptoBulk {H : Type} : DataW H → Nat
  | .lit (.string bytes) => bytes.length + 1
  | .lit _ => 1
  | .nil => 1
  | .ptr d => uptoBulk d + 1
  | .slice elems spare => uptoBulkAll elems + uptoBulkAll spare + 1
  | .agg parts => uptoBulkAll parts + 1
  | .iface _ d => uptoBulk d + 1
  | .map entries => uptoBulkEntries entries + 1
  | .held _ => 1
def uptoBulkAll {H : Type} : List (DataW H) → Nat
  | [] => 0
  | d :: r => uptoBulk d + uptoBulkAll r
def uptoBulkEntries {H : Type} : List (Lit × DataW H) → Nat
  | [] => 0
  | x :: r => uptoBulkEntry x + uptoBulkEntries r
def uptoBulkEntry {H : Type} : Lit × DataW H → Nat
  | (.string bytes, d) => bytes.length + uptoBulk d + 1
  | (_, d) => uptoBulk d + 1
 end
def uptoSmall : (H : Type) → List (DataW H) → Bool := fun _ ds => decide (uptoBulkAll ds ≤ 1048576)
def OpenSpec.upto (s : _root_.Go.ChangeSpec) : _root_.Go.OpenSpec := { _root_.Go.OpenSpec.ofChange s with cond := some uptoSmall }

/-- 'laws.FnExactSubWide', WHERE WHAT IT READS IS OF BULK AT MOST 1048576: true; the input reads as it did. -/
def fnExactSubWideUptoRow : OpenClaim := { program := "ytlfakhjobnaidab", sum := "803ae6d078805f5529cef834ab5cfb22e01738aad1efd50eb363bd1b282e032c", func := "loop.example/s01330/laws.FnExactSubWide", spec := "fnExactSubWide", inPlace := ["math/bits.Sub64"], apart := false, narrowed := true }
def FnExactSubWideUptoSaid : Prop := fnExactSubWideUptoRow.holds Try.pinned (OpenSpec.upto fnExactSubWideSpec)

/-- 'laws.FnExactSqrtWide', WHERE WHAT IT READS IS OF BULK AT MOST 1048576: true; the input reads as it did. -/
def fnExactSqrtWideUptoRow : OpenClaim := { program := "ytlfakhjobnaidab", sum := "803ae6d078805f5529cef834ab5cfb22e01738aad1efd50eb363bd1b282e032c", func := "loop.example/s01330/laws.FnExactSqrtWide", spec := "fnExactSqrtWide", inPlace := ["math/bits.Add64", "math/bits.Sub64"], apart := false, narrowed := true }
def FnExactSqrtWideUptoSaid : Prop := fnExactSqrtWideUptoRow.holds Try.pinned (OpenSpec.upto fnExactSqrtWideSpec)

/-- 'laws.FnExactDivWide', WHERE WHAT IT READS IS OF BULK AT MOST 1048576: true; the input reads as it did. -/
def fnExactDivWideUptoRow : OpenClaim := { program := "ytlfakhjobnaidab", sum := "803ae6d078805f5529cef834ab5cfb22e01738aad1efd50eb363bd1b282e032c", func := "loop.example/s01330/laws.FnExactDivWide", spec := "fnExactDivWide", named := ["math/bits.divideError", "math/bits.overflowError"], apart := false, narrowed := true }
def FnExactDivWideUptoSaid : Prop := fnExactDivWideUptoRow.holds Try.pinned (OpenSpec.upto fnExactDivWideSpec)

end Rows
end Go.Proofs.Ytlfakhjobnaidab
