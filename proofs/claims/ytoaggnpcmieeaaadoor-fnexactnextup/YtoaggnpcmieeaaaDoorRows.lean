/-
  NARROWER THAN 'FOR EVERY INPUT', by the rows' own cells (each row's printed sentence says how): FnExactUnpack: laid · FnExactNextUp: laid · FnExactRoundPack: laid · FnPack: laid.
  DERIVED. THE GIVEN ROWS OF THIS SEAT. 4 by the template 'for every input the law returns true; each argument reads behind the call as it read before'; 0 by the template 'total and deterministic' (their statements: YtoaggnpcmieeaaaDoorTotals.lean).
  GIVEN WITH THE SEED: the statements are not yours to turn. If you find one false, say at which input.
  Laid BY PROGRAM, IN A SANDBOX (cutbox-rows.mjs): the forced cells as the released guide's own fill.sh prints them over the translation 37472e16a12f7ded… (all of the seat's roots in one cut). By AI agents, Wed Nov 11 2026. No macro, syntax, notation, axiom, sorry.
-/
import Derived.Test.YtoaggnpcmieeaaaDoorChecked
import GoSem.Claim
import GoSem.ClaimJoined
import GoSem.ClaimMapViews
import Derived.JoinedTies
import Derived.KernelRfl
namespace Go.Proofs.YtoaggnpcmieeaaaDoor
/- THE CELL 'sum', in the pinned program and in every row, IS THE sha256 OF THE DUMP (.gsa) THAT YtoaggnpcmieeaaaDoorProg.lean LOADS. Nothing in Lean hashes anything: it is a label: what it is worth is what the hold of that sum in a sandbox is worth. -/
noncomputable def Tryd.pinned : Pinned := { name := "ytoaggnpcmieeaaadoor", sum := "37472e16a12f7dedda0ac0fb463c2f94be7bd4ee598123d84afbdaa7d818ee68", checked := Tryd.checked }
namespace Rows
def none {H : Type} : Left H := { results := [], args := [] }

/- WHAT THE LISTED PACKAGE-LEVEL VARIABLES READ AS WHEN THE CALL BEGINS. Each datum BY PROGRAM (the guide's laid-datum.mjs) off the statement by which the dump's own 'gosem.cut.vars' lays the variable. In a bare row this is a premise. The card (YtoaggnpcmieeaaaDoorCards.lean) ties it to the program's text. -/
def laid_loop_example_s01330_impl_formats {H : Type} : DataW H := .agg [.agg [.lit (.int .i64 24), .lit (.int .i64 (-126)), .lit (.int .i64 127)], .agg [.lit (.int .i64 53), .lit (.int .i64 (-1022)), .lit (.int .i64 1023)]]

/-- 'laws.FnExactUnpack': WHATEVER THE INPUT: true; the input reads as it did. -/
def fnExactUnpackSpec : ChangeSpec := { name := "fnExactUnpack", vars := ["loop.example/s01330/impl.formats"], fn := fun _ => fun
  | [d1, d2, g1] => { results := [.lit (.bool true)], args := [d1, d2], vars := [g1] }
  | _ => none }
def fnExactUnpackRow : OpenClaim := { program := "ytoaggnpcmieeaaadoor", sum := "37472e16a12f7dedda0ac0fb463c2f94be7bd4ee598123d84afbdaa7d818ee68", func := "loop.example/s01330/laws.FnExactUnpack", spec := "fnExactUnpack", named := ["loop.example/s01330/impl.formats"], apart := false, laid := [("loop.example/s01330/impl.formats", laid_loop_example_s01330_impl_formats)] }
def FnExactUnpackSaid : Prop := fnExactUnpackRow.holds Tryd.pinned (OpenSpec.ofChange fnExactUnpackSpec)

/-- ITS FALSE NEIGHBOUR: 'it returns false'. Refute it at one input. -/
def fnExactUnpackWrong : ChangeSpec := { name := "fnExactUnpack", vars := ["loop.example/s01330/impl.formats"], fn := fun _ => fun
  | [d1, d2, g1] => { results := [.lit (.bool false)], args := [d1, d2], vars := [g1] }
  | _ => none }
def FnExactUnpackWrongFalsely : Prop := fnExactUnpackRow.holds Tryd.pinned (OpenSpec.ofChange fnExactUnpackWrong)

/-- 'laws.FnExactNextUp': WHATEVER THE INPUT: true; the input reads as it did. -/
def fnExactNextUpSpec : ChangeSpec := { name := "fnExactNextUp", vars := ["loop.example/s01330/impl.formats"], fn := fun _ => fun
  | [d1, d2, g1] => { results := [.lit (.bool true)], args := [d1, d2], vars := [g1] }
  | _ => none }
def fnExactNextUpRow : OpenClaim := { program := "ytoaggnpcmieeaaadoor", sum := "37472e16a12f7dedda0ac0fb463c2f94be7bd4ee598123d84afbdaa7d818ee68", func := "loop.example/s01330/laws.FnExactNextUp", spec := "fnExactNextUp", named := ["loop.example/s01330/impl.formats"], apart := false, laid := [("loop.example/s01330/impl.formats", laid_loop_example_s01330_impl_formats)] }
def FnExactNextUpSaid : Prop := fnExactNextUpRow.holds Tryd.pinned (OpenSpec.ofChange fnExactNextUpSpec)

/-- ITS FALSE NEIGHBOUR: 'it returns false'. Refute it at one input. -/
def fnExactNextUpWrong : ChangeSpec := { name := "fnExactNextUp", vars := ["loop.example/s01330/impl.formats"], fn := fun _ => fun
  | [d1, d2, g1] => { results := [.lit (.bool false)], args := [d1, d2], vars := [g1] }
  | _ => none }
def FnExactNextUpWrongFalsely : Prop := fnExactNextUpRow.holds Tryd.pinned (OpenSpec.ofChange fnExactNextUpWrong)

/-- 'laws.FnExactRoundPack': WHATEVER THE INPUT: true; the input reads as it did. -/
def fnExactRoundPackSpec : ChangeSpec := { name := "fnExactRoundPack", vars := ["loop.example/s01330/impl.formats"], fn := fun _ => fun
  | [d1, d2, d3, d4, d5, d6, g1] => { results := [.lit (.bool true)], args := [d1, d2, d3, d4, d5, d6], vars := [g1] }
  | _ => none }
def fnExactRoundPackRow : OpenClaim := { program := "ytoaggnpcmieeaaadoor", sum := "37472e16a12f7dedda0ac0fb463c2f94be7bd4ee598123d84afbdaa7d818ee68", func := "loop.example/s01330/laws.FnExactRoundPack", spec := "fnExactRoundPack", unfollowed := true, recurses := true, named := ["loop.example/s01330/impl.formats"], apart := false, laid := [("loop.example/s01330/impl.formats", laid_loop_example_s01330_impl_formats)] }
def FnExactRoundPackSaid : Prop := fnExactRoundPackRow.holds Tryd.pinned (OpenSpec.ofChange fnExactRoundPackSpec)

/-- ITS FALSE NEIGHBOUR: 'it returns false'. Refute it at one input. -/
def fnExactRoundPackWrong : ChangeSpec := { name := "fnExactRoundPack", vars := ["loop.example/s01330/impl.formats"], fn := fun _ => fun
  | [d1, d2, d3, d4, d5, d6, g1] => { results := [.lit (.bool false)], args := [d1, d2, d3, d4, d5, d6], vars := [g1] }
  | _ => none }
def FnExactRoundPackWrongFalsely : Prop := fnExactRoundPackRow.holds Tryd.pinned (OpenSpec.ofChange fnExactRoundPackWrong)

/-- 'laws.FnPack': WHATEVER THE INPUT: true; the input reads as it did. -/
def fnPackSpec : ChangeSpec := { name := "fnPack", vars := ["loop.example/s01330/impl.formats"], fn := fun _ => fun
  | [d, g1] => { results := [.lit (.bool true)], args := [d], vars := [g1] }
  | _ => none }
def fnPackRow : OpenClaim := { program := "ytoaggnpcmieeaaadoor", sum := "37472e16a12f7dedda0ac0fb463c2f94be7bd4ee598123d84afbdaa7d818ee68", func := "loop.example/s01330/laws.FnPack", spec := "fnPack", unfollowed := true, recurses := true, named := ["loop.example/s01330/impl.formats"], apart := false, laid := [("loop.example/s01330/impl.formats", laid_loop_example_s01330_impl_formats)] }
def FnPackSaid : Prop := fnPackRow.holds Tryd.pinned (OpenSpec.ofChange fnPackSpec)

/-- ITS FALSE NEIGHBOUR: 'it returns false'. Refute it at one input. -/
def fnPackWrong : ChangeSpec := { name := "fnPack", vars := ["loop.example/s01330/impl.formats"], fn := fun _ => fun
  | [d, g1] => { results := [.lit (.bool false)], args := [d], vars := [g1] }
  | _ => none }
def FnPackWrongFalsely : Prop := fnPackRow.holds Tryd.pinned (OpenSpec.ofChange fnPackWrong)

/- THE SECOND FORM. 'bulk': how many values and letters a reading holds, each counted each time it is reached (what is shared counts as often as it is met; a slice's spare places count too). A statement '..UptoSaid' is the law's where the arguments, and the package variables that the reading takes, are together of bulk at most 1048576: NARROWER than '..Said'. Prove '..Said' where nothing that the law and all that it calls make is longer than what came in: it says more and counts as full. Else prove '..UptoSaid'. A law counts once. -/
mutual
def uptoBulk {H : Type} : DataW H → Nat
  | .lit (.string bytes) => bytes.length + 1
  | .lit _ => 1
  | .nil => 1
  | .ptr d => uptoBulk d + 1
  | .slice elems spare => uptoBulkAll elems + uptoBulkAll spare + 1
  | .agg parts => uptoBulkAll parts + 1
  | .iface _ d => uptoBulk d + 1
  | .map entries => uptoBulkEntries entries + 1
  | .held _ => 1
def uptoBulkAll {H : Type} : List (DataW H) → Nat
  | [] => 0
  | d :: r => uptoBulk d + uptoBulkAll r
def uptoBulkEntries {H : Type} : List (Lit × DataW H) → Nat
  | [] => 0
  | x :: r => uptoBulkEntry x + uptoBulkEntries r
def uptoBulkEntry {H : Type} : Lit × DataW H → Nat
  | (.string bytes, d) => bytes.length + uptoBulk d + 1
  | (_, d) => uptoBulk d + 1
 end
def uptoSmall : (H : Type) → List (DataW H) → Bool := fun _ ds => decide (uptoBulkAll ds ≤ 1048576)
def OpenSpec.upto (s : _root_.Go.ChangeSpec) : _root_.Go.OpenSpec := { _root_.Go.OpenSpec.ofChange s with cond := some uptoSmall }

/-- 'laws.FnExactUnpack', WHERE WHAT IT READS IS OF BULK AT MOST 1048576: true; the input reads as it did. -/
def fnExactUnpackUptoRow : OpenClaim := { program := "ytoaggnpcmieeaaadoor", sum := "37472e16a12f7dedda0ac0fb463c2f94be7bd4ee598123d84afbdaa7d818ee68", func := "loop.example/s01330/laws.FnExactUnpack", spec := "fnExactUnpack", named := ["loop.example/s01330/impl.formats"], apart := false, laid := [("loop.example/s01330/impl.formats", laid_loop_example_s01330_impl_formats)], narrowed := true }
def FnExactUnpackUptoSaid : Prop := fnExactUnpackUptoRow.holds Tryd.pinned (OpenSpec.upto fnExactUnpackSpec)

/-- 'laws.FnExactNextUp', WHERE WHAT IT READS IS OF BULK AT MOST 1048576: true; the input reads as it did. -/
def fnExactNextUpUptoRow : OpenClaim := { program := "ytoaggnpcmieeaaadoor", sum := "37472e16a12f7dedda0ac0fb463c2f94be7bd4ee598123d84afbdaa7d818ee68", func := "loop.example/s01330/laws.FnExactNextUp", spec := "fnExactNextUp", named := ["loop.example/s01330/impl.formats"], apart := false, laid := [("loop.example/s01330/impl.formats", laid_loop_example_s01330_impl_formats)], narrowed := true }
def FnExactNextUpUptoSaid : Prop := fnExactNextUpUptoRow.holds Tryd.pinned (OpenSpec.upto fnExactNextUpSpec)

/-- 'laws.FnExactRoundPack', WHERE WHAT IT READS IS OF BULK AT MOST 1048576: true; the input reads as it did. -/
def fnExactRoundPackUptoRow : OpenClaim := { program := "ytoaggnpcmieeaaadoor", sum := "37472e16a12f7dedda0ac0fb463c2f94be7bd4ee598123d84afbdaa7d818ee68", func := "loop.example/s01330/laws.FnExactRoundPack", spec := "fnExactRoundPack", unfollowed := true, recurses := true, named := ["loop.example/s01330/impl.formats"], apart := false, laid := [("loop.example/s01330/impl.formats", laid_loop_example_s01330_impl_formats)], narrowed := true }
def FnExactRoundPackUptoSaid : Prop := fnExactRoundPackUptoRow.holds Tryd.pinned (OpenSpec.upto fnExactRoundPackSpec)

/-- 'laws.FnPack', WHERE WHAT IT READS IS OF BULK AT MOST 1048576: true; the input reads as it did. -/
def fnPackUptoRow : OpenClaim := { program := "ytoaggnpcmieeaaadoor", sum := "37472e16a12f7dedda0ac0fb463c2f94be7bd4ee598123d84afbdaa7d818ee68", func := "loop.example/s01330/laws.FnPack", spec := "fnPack", unfollowed := true, recurses := true, named := ["loop.example/s01330/impl.formats"], apart := false, laid := [("loop.example/s01330/impl.formats", laid_loop_example_s01330_impl_formats)], narrowed := true }
def FnPackUptoSaid : Prop := fnPackUptoRow.holds Tryd.pinned (OpenSpec.upto fnPackSpec)

end Rows
end Go.Proofs.YtoaggnpcmieeaaaDoor
