/-
  NARROWER THAN 'FOR EVERY INPUT', by the rows' own cells (each row's printed sentence says how): FnRem: laid · FnSwap: laid · FnFused: laid · FnQuotient: laid.
  DERIVED. THE GIVEN ROWS OF THIS SEAT. 4 by the template 'for every input the law returns true; each argument reads behind the call as it read before'; 0 by the template 'total and deterministic' (their statements: YtkflpogmhailhaaGreatDoorTotals.lean).
  GIVEN WITH THE SEED: the statements are not yours to turn. If you find one false, say at which input.
  Laid BY PROGRAM, IN A SANDBOX (cutbox-rows.mjs): the forced cells as the released guide's own fill.sh prints them over the translation b3bce5b14ddedb9c… (all of the seat's roots in one cut). By AI agents, Wed Nov 11 2026. No macro, syntax, notation, axiom, sorry.
-/
import Derived.Test.YtkflpogmhailhaaGreatDoorChecked
import GoSem.Claim
import GoSem.ClaimJoined
import GoSem.ClaimMapViews
import Derived.JoinedTies
import Derived.KernelRfl
namespace Go.Proofs.YtkflpogmhailhaaGreatDoor
/- THE CELL 'sum', in the pinned program and in every row, IS THE sha256 OF THE DUMP (.gsa) THAT YtkflpogmhailhaaGreatDoorProg.lean LOADS. Nothing in Lean hashes anything: it is a label: what it is worth is what the hold of that sum in a sandbox is worth. -/
noncomputable def Tryz.pinned : Pinned := { name := "ytkflpogmhailhaagreatdoor", sum := "b3bce5b14ddedb9c651e76a41f3f2e66c3be3c208af123504f20dfb2515e89d5", checked := Tryz.checked }
namespace Rows
def none {H : Type} : Left H := { results := [], args := [] }

/- WHAT THE LISTED PACKAGE-LEVEL VARIABLES READ AS WHEN THE CALL BEGINS. Each datum BY PROGRAM (the guide's laid-datum.mjs) off the statement by which the dump's own 'gosem.cut.vars' lays the variable. In a bare row this is a premise. The card (YtkflpogmhailhaaGreatDoorCards.lean) ties it to the program's text. -/
def laid_loop_example_s01330_impl_formats {H : Type} : DataW H := .agg [.agg [.lit (.int .i64 24), .lit (.int .i64 (-126)), .lit (.int .i64 127)], .agg [.lit (.int .i64 53), .lit (.int .i64 (-1022)), .lit (.int .i64 1023)]]

/-- 'laws.FnRem': WHATEVER THE INPUT: true; the input reads as it did. -/
def fnRemSpec : ChangeSpec := { name := "fnRem", vars := ["loop.example/s01330/impl.formats"], fn := fun _ => fun
  | [d, g1] => { results := [.lit (.bool true)], args := [d], vars := [g1] }
  | _ => none }
def fnRemRow : OpenClaim := { program := "ytkflpogmhailhaagreatdoor", sum := "b3bce5b14ddedb9c651e76a41f3f2e66c3be3c208af123504f20dfb2515e89d5", func := "loop.example/s01330/laws.FnRem", spec := "fnRem", inPlace := ["math/bits.Sub64", "math/bits.Add64"], unfollowed := true, recurses := true, named := ["loop.example/s01330/impl.formats"], apart := false, laid := [("loop.example/s01330/impl.formats", laid_loop_example_s01330_impl_formats)] }
def FnRemSaid : Prop := fnRemRow.holds Tryz.pinned (OpenSpec.ofChange fnRemSpec)

/-- ITS FALSE NEIGHBOUR: 'it returns false'. Refute it at one input. -/
def fnRemWrong : ChangeSpec := { name := "fnRem", vars := ["loop.example/s01330/impl.formats"], fn := fun _ => fun
  | [d, g1] => { results := [.lit (.bool false)], args := [d], vars := [g1] }
  | _ => none }
def FnRemWrongFalsely : Prop := fnRemRow.holds Tryz.pinned (OpenSpec.ofChange fnRemWrong)

/-- 'laws.FnSwap': WHATEVER THE INPUT: true; the input reads as it did. -/
def fnSwapSpec : ChangeSpec := { name := "fnSwap", vars := ["loop.example/s01330/impl.formats"], fn := fun _ => fun
  | [d, g1] => { results := [.lit (.bool true)], args := [d], vars := [g1] }
  | _ => none }
def fnSwapRow : OpenClaim := { program := "ytkflpogmhailhaagreatdoor", sum := "b3bce5b14ddedb9c651e76a41f3f2e66c3be3c208af123504f20dfb2515e89d5", func := "loop.example/s01330/laws.FnSwap", spec := "fnSwap", inPlace := ["math/bits.Sub64", "math/bits.Add64"], unfollowed := true, recurses := true, named := ["loop.example/s01330/impl.formats"], apart := false, laid := [("loop.example/s01330/impl.formats", laid_loop_example_s01330_impl_formats)] }
def FnSwapSaid : Prop := fnSwapRow.holds Tryz.pinned (OpenSpec.ofChange fnSwapSpec)

/-- ITS FALSE NEIGHBOUR: 'it returns false'. Refute it at one input. -/
def fnSwapWrong : ChangeSpec := { name := "fnSwap", vars := ["loop.example/s01330/impl.formats"], fn := fun _ => fun
  | [d, g1] => { results := [.lit (.bool false)], args := [d], vars := [g1] }
  | _ => none }
def FnSwapWrongFalsely : Prop := fnSwapRow.holds Tryz.pinned (OpenSpec.ofChange fnSwapWrong)

/-- 'laws.FnFused': WHATEVER THE INPUT: true; the input reads as it did. -/
def fnFusedSpec : ChangeSpec := { name := "fnFused", vars := ["loop.example/s01330/impl.formats"], fn := fun _ => fun
  | [d, g1] => { results := [.lit (.bool true)], args := [d], vars := [g1] }
  | _ => none }
def fnFusedRow : OpenClaim := { program := "ytkflpogmhailhaagreatdoor", sum := "b3bce5b14ddedb9c651e76a41f3f2e66c3be3c208af123504f20dfb2515e89d5", func := "loop.example/s01330/laws.FnFused", spec := "fnFused", inPlace := ["math/bits.Add64", "math/bits.Sub64"], unfollowed := true, recurses := true, named := ["loop.example/s01330/impl.formats"], apart := false, laid := [("loop.example/s01330/impl.formats", laid_loop_example_s01330_impl_formats)] }
def FnFusedSaid : Prop := fnFusedRow.holds Tryz.pinned (OpenSpec.ofChange fnFusedSpec)

/-- ITS FALSE NEIGHBOUR: 'it returns false'. Refute it at one input. -/
def fnFusedWrong : ChangeSpec := { name := "fnFused", vars := ["loop.example/s01330/impl.formats"], fn := fun _ => fun
  | [d, g1] => { results := [.lit (.bool false)], args := [d], vars := [g1] }
  | _ => none }
def FnFusedWrongFalsely : Prop := fnFusedRow.holds Tryz.pinned (OpenSpec.ofChange fnFusedWrong)

/-- 'laws.FnQuotient': WHATEVER THE INPUT: true; the input reads as it did. -/
def fnQuotientSpec : ChangeSpec := { name := "fnQuotient", vars := ["loop.example/s01330/impl.formats"], fn := fun _ => fun
  | [d, g1] => { results := [.lit (.bool true)], args := [d], vars := [g1] }
  | _ => none }
def fnQuotientRow : OpenClaim := { program := "ytkflpogmhailhaagreatdoor", sum := "b3bce5b14ddedb9c651e76a41f3f2e66c3be3c208af123504f20dfb2515e89d5", func := "loop.example/s01330/laws.FnQuotient", spec := "fnQuotient", inPlace := ["math/bits.Add64", "math/bits.Sub64"], unfollowed := true, recurses := true, named := ["loop.example/s01330/impl.formats"], apart := false, laid := [("loop.example/s01330/impl.formats", laid_loop_example_s01330_impl_formats)] }
def FnQuotientSaid : Prop := fnQuotientRow.holds Tryz.pinned (OpenSpec.ofChange fnQuotientSpec)

/-- ITS FALSE NEIGHBOUR: 'it returns false'. Refute it at one input. -/
def fnQuotientWrong : ChangeSpec := { name := "fnQuotient", vars := ["loop.example/s01330/impl.formats"], fn := fun _ => fun
  | [d, g1] => { results := [.lit (.bool false)], args := [d], vars := [g1] }
  | _ => none }
def FnQuotientWrongFalsely : Prop := fnQuotientRow.holds Tryz.pinned (OpenSpec.ofChange fnQuotientWrong)

/- THE SECOND FORM. 'bulk': how many values and letters a reading holds, each counted each time it is reached (what is shared counts as often as it is met; a slice's spare places count too). A statement '..UptoSaid' is the law's where the arguments, and the package variables that the reading takes, are together of bulk at most 1048576: NARROWER than '..Said'. Prove '..Said' where nothing that the law and all that it calls make is longer than what came in: it says more and counts as full. Else prove '..UptoSaid'. A law counts once. -/
mutual
def uptoBulk {H : Type} : DataW H → Nat
  | .lit (.string bytes) => bytes.length + 1
  | .lit _ => 1
  | .nil => 1
  | .ptr d => uptoBulk d + 1
  | .slice elems spare => uptoBulkAll elems + uptoBulkAll spare + 1
  | .agg parts => uptoBulkAll parts + 1
  | .iface _ d => uptoBulk d + 1
  | .map entries => uptoBulkEntries entries + 1
  | .held _ => 1
def uptoBulkAll {H : Type} : List (DataW H) → Nat
  | [] => 0
  | d :: r => uptoBulk d + uptoBulkAll r
def uptoBulkEntries {H : Type} : List (Lit × DataW H) → Nat
  | [] => 0
  | x :: r => uptoBulkEntry x + uptoBulkEntries r
def uptoBulkEntry {H : Type} : Lit × DataW H → Nat
  | (.string bytes, d) => bytes.length + uptoBulk d + 1
  | (_, d) => uptoBulk d + 1
 end
def uptoSmall : (H : Type) → List (DataW H) → Bool := fun _ ds => decide (uptoBulkAll ds ≤ 1048576)
def OpenSpec.upto (s : _root_.Go.ChangeSpec) : _root_.Go.OpenSpec := { _root_.Go.OpenSpec.ofChange s with cond := some uptoSmall }

/-- 'laws.FnRem', WHERE WHAT IT READS IS OF BULK AT MOST 1048576: true; the input reads as it did. -/
def fnRemUptoRow : OpenClaim := { program := "ytkflpogmhailhaagreatdoor", sum := "b3bce5b14ddedb9c651e76a41f3f2e66c3be3c208af123504f20dfb2515e89d5", func := "loop.example/s01330/laws.FnRem", spec := "fnRem", inPlace := ["math/bits.Sub64", "math/bits.Add64"], unfollowed := true, recurses := true, named := ["loop.example/s01330/impl.formats"], apart := false, laid := [("loop.example/s01330/impl.formats", laid_loop_example_s01330_impl_formats)], narrowed := true }
def FnRemUptoSaid : Prop := fnRemUptoRow.holds Tryz.pinned (OpenSpec.upto fnRemSpec)

/-- 'laws.FnSwap', WHERE WHAT IT READS IS OF BULK AT MOST 1048576: true; the input reads as it did. -/
def fnSwapUptoRow : OpenClaim := { program := "ytkflpogmhailhaagreatdoor", sum := "b3bce5b14ddedb9c651e76a41f3f2e66c3be3c208af123504f20dfb2515e89d5", func := "loop.example/s01330/laws.FnSwap", spec := "fnSwap", inPlace := ["math/bits.Sub64", "math/bits.Add64"], unfollowed := true, recurses := true, named := ["loop.example/s01330/impl.formats"], apart := false, laid := [("loop.example/s01330/impl.formats", laid_loop_example_s01330_impl_formats)], narrowed := true }
def FnSwapUptoSaid : Prop := fnSwapUptoRow.holds Tryz.pinned (OpenSpec.upto fnSwapSpec)

/-- 'laws.FnFused', WHERE WHAT IT READS IS OF BULK AT MOST 1048576: true; the input reads as it did. -/
def fnFusedUptoRow : OpenClaim := { program := "ytkflpogmhailhaagreatdoor", sum := "b3bce5b14ddedb9c651e76a41f3f2e66c3be3c208af123504f20dfb2515e89d5", func := "loop.example/s01330/laws.FnFused", spec := "fnFused", inPlace := ["math/bits.Add64", "math/bits.Sub64"], unfollowed := true, recurses := true, named := ["loop.example/s01330/impl.formats"], apart := false, laid := [("loop.example/s01330/impl.formats", laid_loop_example_s01330_impl_formats)], narrowed := true }
def FnFusedUptoSaid : Prop := fnFusedUptoRow.holds Tryz.pinned (OpenSpec.upto fnFusedSpec)

/-- 'laws.FnQuotient', WHERE WHAT IT READS IS OF BULK AT MOST 1048576: true; the input reads as it did. -/
def fnQuotientUptoRow : OpenClaim := { program := "ytkflpogmhailhaagreatdoor", sum := "b3bce5b14ddedb9c651e76a41f3f2e66c3be3c208af123504f20dfb2515e89d5", func := "loop.example/s01330/laws.FnQuotient", spec := "fnQuotient", inPlace := ["math/bits.Add64", "math/bits.Sub64"], unfollowed := true, recurses := true, named := ["loop.example/s01330/impl.formats"], apart := false, laid := [("loop.example/s01330/impl.formats", laid_loop_example_s01330_impl_formats)], narrowed := true }
def FnQuotientUptoSaid : Prop := fnQuotientUptoRow.holds Tryz.pinned (OpenSpec.upto fnQuotientSpec)

end Rows
end Go.Proofs.YtkflpogmhailhaaGreatDoor
