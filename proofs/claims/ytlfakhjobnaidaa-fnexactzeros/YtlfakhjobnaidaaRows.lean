/-
  No cell of these rows narrows 'for every input' (looked for: loops, veiled, ifaces, maps, wideKeys, modest, calm, conditions, laid).
  DERIVED. THE GIVEN ROWS OF THIS SEAT. 5 by the template 'for every input the law returns true; each argument reads behind the call as it read before'; 0 by the template 'total and deterministic' (their statements: YtlfakhjobnaidaaTotals.lean).
  GIVEN WITH THE SEED: the statements are not yours to turn. If you find one false, say at which input.
  Laid BY PROGRAM, IN A SANDBOX (cutbox-rows.mjs): the forced cells as the released guide's own fill.sh prints them over the translation 9a621401f92d92ca… (all of the seat's roots in one cut). By AI agents, Wed Nov 11 2026. No macro, syntax, notation, axiom, sorry.
-/
import Derived.Test.YtlfakhjobnaidaaChecked
import GoSem.Claim
import GoSem.ClaimJoined
import GoSem.ClaimMapViews
import Derived.JoinedTies
import Derived.KernelRfl
namespace Go.Proofs.Ytlfakhjobnaidaa
/- THE CELL 'sum', in the pinned program and in every row, IS THE sha256 OF THE DUMP (.gsa) THAT YtlfakhjobnaidaaProg.lean LOADS. Nothing in Lean hashes anything: it is a label: what it is worth is what the hold of that sum in a sandbox is worth. -/
noncomputable def Try.pinned : Pinned := { name := "ytlfakhjobnaidaa", sum := "9a621401f92d92ca5829c9aa145e3ef030d362896fcc6201dc307d9a09827a1a", checked := Try.checked }
namespace Rows
def none {H : Type} : Left H := { results := [], args := [] }

/-- 'laws.FnExactMulWide': WHATEVER THE INPUT: true; the input reads as it did. -/
def fnExactMulWideSpec : ChangeSpec := { name := "fnExactMulWide", fn := fun _ => fun
  | [d1, d2] => { results := [.lit (.bool true)], args := [d1, d2] }
  | _ => none }
def fnExactMulWideRow : OpenClaim := { program := "ytlfakhjobnaidaa", sum := "9a621401f92d92ca5829c9aa145e3ef030d362896fcc6201dc307d9a09827a1a", func := "loop.example/s01330/laws.FnExactMulWide", spec := "fnExactMulWide", inPlace := ["math/bits.Add64"], apart := false }
def FnExactMulWideSaid : Prop := fnExactMulWideRow.holds Try.pinned (OpenSpec.ofChange fnExactMulWideSpec)

/-- ITS FALSE NEIGHBOUR: 'it returns false'. Refute it at one input. -/
def fnExactMulWideWrong : ChangeSpec := { name := "fnExactMulWide", fn := fun _ => fun
  | [d1, d2] => { results := [.lit (.bool false)], args := [d1, d2] }
  | _ => none }
def FnExactMulWideWrongFalsely : Prop := fnExactMulWideRow.holds Try.pinned (OpenSpec.ofChange fnExactMulWideWrong)

/-- 'laws.FnExactAddWide': WHATEVER THE INPUT: true; the input reads as it did. -/
def fnExactAddWideSpec : ChangeSpec := { name := "fnExactAddWide", fn := fun _ => fun
  | [d1, d2] => { results := [.lit (.bool true)], args := [d1, d2] }
  | _ => none }
def fnExactAddWideRow : OpenClaim := { program := "ytlfakhjobnaidaa", sum := "9a621401f92d92ca5829c9aa145e3ef030d362896fcc6201dc307d9a09827a1a", func := "loop.example/s01330/laws.FnExactAddWide", spec := "fnExactAddWide", inPlace := ["math/bits.Add64"], apart := false }
def FnExactAddWideSaid : Prop := fnExactAddWideRow.holds Try.pinned (OpenSpec.ofChange fnExactAddWideSpec)

/-- ITS FALSE NEIGHBOUR: 'it returns false'. Refute it at one input. -/
def fnExactAddWideWrong : ChangeSpec := { name := "fnExactAddWide", fn := fun _ => fun
  | [d1, d2] => { results := [.lit (.bool false)], args := [d1, d2] }
  | _ => none }
def FnExactAddWideWrongFalsely : Prop := fnExactAddWideRow.holds Try.pinned (OpenSpec.ofChange fnExactAddWideWrong)

/-- 'laws.FnExactShiftLeft': WHATEVER THE INPUT: true; the input reads as it did. -/
def fnExactShiftLeftSpec : ChangeSpec := { name := "fnExactShiftLeft", fn := fun _ => fun
  | [d1, d2] => { results := [.lit (.bool true)], args := [d1, d2] }
  | _ => none }
def fnExactShiftLeftRow : OpenClaim := { program := "ytlfakhjobnaidaa", sum := "9a621401f92d92ca5829c9aa145e3ef030d362896fcc6201dc307d9a09827a1a", func := "loop.example/s01330/laws.FnExactShiftLeft", spec := "fnExactShiftLeft", apart := false }
def FnExactShiftLeftSaid : Prop := fnExactShiftLeftRow.holds Try.pinned (OpenSpec.ofChange fnExactShiftLeftSpec)

/-- ITS FALSE NEIGHBOUR: 'it returns false'. Refute it at one input. -/
def fnExactShiftLeftWrong : ChangeSpec := { name := "fnExactShiftLeft", fn := fun _ => fun
  | [d1, d2] => { results := [.lit (.bool false)], args := [d1, d2] }
  | _ => none }
def FnExactShiftLeftWrongFalsely : Prop := fnExactShiftLeftRow.holds Try.pinned (OpenSpec.ofChange fnExactShiftLeftWrong)

/-- 'laws.FnExactShiftRight': WHATEVER THE INPUT: true; the input reads as it did. -/
def fnExactShiftRightSpec : ChangeSpec := { name := "fnExactShiftRight", fn := fun _ => fun
  | [d1, d2] => { results := [.lit (.bool true)], args := [d1, d2] }
  | _ => none }
def fnExactShiftRightRow : OpenClaim := { program := "ytlfakhjobnaidaa", sum := "9a621401f92d92ca5829c9aa145e3ef030d362896fcc6201dc307d9a09827a1a", func := "loop.example/s01330/laws.FnExactShiftRight", spec := "fnExactShiftRight", apart := false }
def FnExactShiftRightSaid : Prop := fnExactShiftRightRow.holds Try.pinned (OpenSpec.ofChange fnExactShiftRightSpec)

/-- ITS FALSE NEIGHBOUR: 'it returns false'. Refute it at one input. -/
def fnExactShiftRightWrong : ChangeSpec := { name := "fnExactShiftRight", fn := fun _ => fun
  | [d1, d2] => { results := [.lit (.bool false)], args := [d1, d2] }
  | _ => none }
def FnExactShiftRightWrongFalsely : Prop := fnExactShiftRightRow.holds Try.pinned (OpenSpec.ofChange fnExactShiftRightWrong)

/-- 'laws.FnExactZeros': WHATEVER THE INPUT: true; the input reads as it did. -/
def fnExactZerosSpec : ChangeSpec := { name := "fnExactZeros", fn := fun _ => fun
  | [d] => { results := [.lit (.bool true)], args := [d] }
  | _ => none }
def fnExactZerosRow : OpenClaim := { program := "ytlfakhjobnaidaa", sum := "9a621401f92d92ca5829c9aa145e3ef030d362896fcc6201dc307d9a09827a1a", func := "loop.example/s01330/laws.FnExactZeros", spec := "fnExactZeros", apart := false }
def FnExactZerosSaid : Prop := fnExactZerosRow.holds Try.pinned (OpenSpec.ofChange fnExactZerosSpec)

/-- ITS FALSE NEIGHBOUR: 'it returns false'. Refute it at one input. -/
def fnExactZerosWrong : ChangeSpec := { name := "fnExactZeros", fn := fun _ => fun
  | [d] => { results := [.lit (.bool false)], args := [d] }
  | _ => none }
def FnExactZerosWrongFalsely : Prop := fnExactZerosRow.holds Try.pinned (OpenSpec.ofChange fnExactZerosWrong)

/- THE SECOND FORM. 'bulk': how many values and letters a reading holds, each counted each time it is reached (what is shared counts as often as it is met; a slice's spare places count too). A statement '..UptoSaid' is the law's where the arguments, and the package variables that the reading takes, are together of bulk at most 1048576: NARROWER than '..Said'. Prove '..Said' where nothing that the law and all that it calls make is longer than what came in: it says more and counts as full. Else prove '..UptoSaid'. A law counts once. -/
mutual
def uptoBulk {H : Type} : DataW H → Nat
  | .lit (.string bytes) => bytes.length + 1
  | .lit _ => 1
  | .nil => 1
  | .ptr d => uptoBulk d + 1
  | .slice elems spare => uptoBulkAll elems + uptoBulkAll spare + 1
  | .agg parts => uptoBulkAll parts + 1
  | .iface _ d => uptoBulk d + 1
  | .map entries => uptoBulkEntries entries + 1
  | .held _ => 1
def uptoBulkAll {H : Type} : List (DataW H) → Nat
  | [] => 0
  | d :: r => uptoBulk d + uptoBulkAll r
def uptoBulkEntries {H : Type} : List (Lit × DataW H) → Nat
  | [] => 0
  | x :: r => uptoBulkEntry x + uptoBulkEntries r
def uptoBulkEntry {H : Type} : Lit × DataW H → Nat
  | (.string bytes, d) => bytes.length + uptoBulk d + 1
  | (_, d) => uptoBulk d + 1
 end
def uptoSmall : (H : Type) → List (DataW H) → Bool := fun _ ds => decide (uptoBulkAll ds ≤ 1048576)
def OpenSpec.upto (s : _root_.Go.ChangeSpec) : _root_.Go.OpenSpec := { _root_.Go.OpenSpec.ofChange s with cond := some uptoSmall }

/-- 'laws.FnExactMulWide', WHERE WHAT IT READS IS OF BULK AT MOST 1048576: true; the input reads as it did. -/
def fnExactMulWideUptoRow : OpenClaim := { program := "ytlfakhjobnaidaa", sum := "9a621401f92d92ca5829c9aa145e3ef030d362896fcc6201dc307d9a09827a1a", func := "loop.example/s01330/laws.FnExactMulWide", spec := "fnExactMulWide", inPlace := ["math/bits.Add64"], apart := false, narrowed := true }
def FnExactMulWideUptoSaid : Prop := fnExactMulWideUptoRow.holds Try.pinned (OpenSpec.upto fnExactMulWideSpec)

/-- 'laws.FnExactAddWide', WHERE WHAT IT READS IS OF BULK AT MOST 1048576: true; the input reads as it did. -/
def fnExactAddWideUptoRow : OpenClaim := { program := "ytlfakhjobnaidaa", sum := "9a621401f92d92ca5829c9aa145e3ef030d362896fcc6201dc307d9a09827a1a", func := "loop.example/s01330/laws.FnExactAddWide", spec := "fnExactAddWide", inPlace := ["math/bits.Add64"], apart := false, narrowed := true }
def FnExactAddWideUptoSaid : Prop := fnExactAddWideUptoRow.holds Try.pinned (OpenSpec.upto fnExactAddWideSpec)

/-- 'laws.FnExactShiftLeft', WHERE WHAT IT READS IS OF BULK AT MOST 1048576: true; the input reads as it did. -/
def fnExactShiftLeftUptoRow : OpenClaim := { program := "ytlfakhjobnaidaa", sum := "9a621401f92d92ca5829c9aa145e3ef030d362896fcc6201dc307d9a09827a1a", func := "loop.example/s01330/laws.FnExactShiftLeft", spec := "fnExactShiftLeft", apart := false, narrowed := true }
def FnExactShiftLeftUptoSaid : Prop := fnExactShiftLeftUptoRow.holds Try.pinned (OpenSpec.upto fnExactShiftLeftSpec)

/-- 'laws.FnExactShiftRight', WHERE WHAT IT READS IS OF BULK AT MOST 1048576: true; the input reads as it did. -/
def fnExactShiftRightUptoRow : OpenClaim := { program := "ytlfakhjobnaidaa", sum := "9a621401f92d92ca5829c9aa145e3ef030d362896fcc6201dc307d9a09827a1a", func := "loop.example/s01330/laws.FnExactShiftRight", spec := "fnExactShiftRight", apart := false, narrowed := true }
def FnExactShiftRightUptoSaid : Prop := fnExactShiftRightUptoRow.holds Try.pinned (OpenSpec.upto fnExactShiftRightSpec)

/-- 'laws.FnExactZeros', WHERE WHAT IT READS IS OF BULK AT MOST 1048576: true; the input reads as it did. -/
def fnExactZerosUptoRow : OpenClaim := { program := "ytlfakhjobnaidaa", sum := "9a621401f92d92ca5829c9aa145e3ef030d362896fcc6201dc307d9a09827a1a", func := "loop.example/s01330/laws.FnExactZeros", spec := "fnExactZeros", apart := false, narrowed := true }
def FnExactZerosUptoSaid : Prop := fnExactZerosUptoRow.holds Try.pinned (OpenSpec.upto fnExactZerosSpec)

end Rows
end Go.Proofs.Ytlfakhjobnaidaa
