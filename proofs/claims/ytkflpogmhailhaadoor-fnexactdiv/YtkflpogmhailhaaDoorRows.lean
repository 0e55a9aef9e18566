/-
  NARROWER THAN 'FOR EVERY INPUT', by the rows' own cells (each row's printed sentence says how): FnExactRem: laid · FnExactDiv: laid · FnExactSqrt: laid · FnExactAdd: laid · FnExactMul: laid · FnExactSub: laid · FnExactFma: laid.
  DERIVED. THE GIVEN ROWS OF THIS SEAT. 7 by the template 'for every input the law returns true; each argument reads behind the call as it read before'; 0 by the template 'total and deterministic' (their statements: YtkflpogmhailhaaDoorTotals.lean).
  GIVEN WITH THE SEED: the statements are not yours to turn. If you find one false, say at which input.
  Laid BY PROGRAM, IN A SANDBOX (cutbox-rows.mjs): the forced cells as the released guide's own fill.sh prints them over the translation 816d6e1e736caaee… (all of the seat's roots in one cut). By AI agents, Wed Nov 11 2026. No macro, syntax, notation, axiom, sorry.
-/
import Derived.Test.YtkflpogmhailhaaDoorChecked
import GoSem.Claim
import GoSem.ClaimJoined
import GoSem.ClaimMapViews
import Derived.JoinedTies
import Derived.KernelRfl
namespace Go.Proofs.YtkflpogmhailhaaDoor
/- THE CELL 'sum', in the pinned program and in every row, IS THE sha256 OF THE DUMP (.gsa) THAT YtkflpogmhailhaaDoorProg.lean LOADS. Nothing in Lean hashes anything: it is a label: what it is worth is what the hold of that sum in a sandbox is worth. -/
noncomputable def Tryd.pinned : Pinned := { name := "ytkflpogmhailhaadoor", sum := "816d6e1e736caaeeb42f19b082b3445e0c0af0c0d5959210a20ea01676d8cb1b", checked := Tryd.checked }
namespace Rows
def none {H : Type} : Left H := { results := [], args := [] }

/- WHAT THE LISTED PACKAGE-LEVEL VARIABLES READ AS WHEN THE CALL BEGINS. Each datum BY PROGRAM (the guide's laid-datum.mjs) off the statement by which the dump's own 'gosem.cut.vars' lays the variable. In a bare row this is a premise. The card (YtkflpogmhailhaaDoorCards.lean) ties it to the program's text. -/
def laid_loop_example_s01330_impl_formats {H : Type} : DataW H := .agg [.agg [.lit (.int .i64 24), .lit (.int .i64 (-126)), .lit (.int .i64 127)], .agg [.lit (.int .i64 53), .lit (.int .i64 (-1022)), .lit (.int .i64 1023)]]

/-- 'laws.FnExactRem': WHATEVER THE INPUT: true; the input reads as it did. -/
def fnExactRemSpec : ChangeSpec := { name := "fnExactRem", vars := ["loop.example/s01330/impl.formats"], fn := fun _ => fun
  | [d1, d2, d3, g1] => { results := [.lit (.bool true)], args := [d1, d2, d3], vars := [g1] }
  | _ => none }
def fnExactRemRow : OpenClaim := { program := "ytkflpogmhailhaadoor", sum := "816d6e1e736caaeeb42f19b082b3445e0c0af0c0d5959210a20ea01676d8cb1b", func := "loop.example/s01330/laws.FnExactRem", spec := "fnExactRem", unfollowed := true, recurses := true, named := ["loop.example/s01330/impl.formats"], apart := false, laid := [("loop.example/s01330/impl.formats", laid_loop_example_s01330_impl_formats)] }
def FnExactRemSaid : Prop := fnExactRemRow.holds Tryd.pinned (OpenSpec.ofChange fnExactRemSpec)

/-- ITS FALSE NEIGHBOUR: 'it returns false'. Refute it at one input. -/
def fnExactRemWrong : ChangeSpec := { name := "fnExactRem", vars := ["loop.example/s01330/impl.formats"], fn := fun _ => fun
  | [d1, d2, d3, g1] => { results := [.lit (.bool false)], args := [d1, d2, d3], vars := [g1] }
  | _ => none }
def FnExactRemWrongFalsely : Prop := fnExactRemRow.holds Tryd.pinned (OpenSpec.ofChange fnExactRemWrong)

/-- 'laws.FnExactDiv': WHATEVER THE INPUT: true; the input reads as it did. -/
def fnExactDivSpec : ChangeSpec := { name := "fnExactDiv", vars := ["loop.example/s01330/impl.formats"], fn := fun _ => fun
  | [d1, d2, d3, d4, g1] => { results := [.lit (.bool true)], args := [d1, d2, d3, d4], vars := [g1] }
  | _ => none }
def fnExactDivRow : OpenClaim := { program := "ytkflpogmhailhaadoor", sum := "816d6e1e736caaeeb42f19b082b3445e0c0af0c0d5959210a20ea01676d8cb1b", func := "loop.example/s01330/laws.FnExactDiv", spec := "fnExactDiv", unfollowed := true, recurses := true, named := ["loop.example/s01330/impl.formats"], apart := false, laid := [("loop.example/s01330/impl.formats", laid_loop_example_s01330_impl_formats)] }
def FnExactDivSaid : Prop := fnExactDivRow.holds Tryd.pinned (OpenSpec.ofChange fnExactDivSpec)

/-- ITS FALSE NEIGHBOUR: 'it returns false'. Refute it at one input. -/
def fnExactDivWrong : ChangeSpec := { name := "fnExactDiv", vars := ["loop.example/s01330/impl.formats"], fn := fun _ => fun
  | [d1, d2, d3, d4, g1] => { results := [.lit (.bool false)], args := [d1, d2, d3, d4], vars := [g1] }
  | _ => none }
def FnExactDivWrongFalsely : Prop := fnExactDivRow.holds Tryd.pinned (OpenSpec.ofChange fnExactDivWrong)

/-- 'laws.FnExactSqrt': WHATEVER THE INPUT: true; the input reads as it did. -/
def fnExactSqrtSpec : ChangeSpec := { name := "fnExactSqrt", vars := ["loop.example/s01330/impl.formats"], fn := fun _ => fun
  | [d1, d2, d3, g1] => { results := [.lit (.bool true)], args := [d1, d2, d3], vars := [g1] }
  | _ => none }
def fnExactSqrtRow : OpenClaim := { program := "ytkflpogmhailhaadoor", sum := "816d6e1e736caaeeb42f19b082b3445e0c0af0c0d5959210a20ea01676d8cb1b", func := "loop.example/s01330/laws.FnExactSqrt", spec := "fnExactSqrt", unfollowed := true, recurses := true, named := ["loop.example/s01330/impl.formats"], apart := false, laid := [("loop.example/s01330/impl.formats", laid_loop_example_s01330_impl_formats)] }
def FnExactSqrtSaid : Prop := fnExactSqrtRow.holds Tryd.pinned (OpenSpec.ofChange fnExactSqrtSpec)

/-- ITS FALSE NEIGHBOUR: 'it returns false'. Refute it at one input. -/
def fnExactSqrtWrong : ChangeSpec := { name := "fnExactSqrt", vars := ["loop.example/s01330/impl.formats"], fn := fun _ => fun
  | [d1, d2, d3, g1] => { results := [.lit (.bool false)], args := [d1, d2, d3], vars := [g1] }
  | _ => none }
def FnExactSqrtWrongFalsely : Prop := fnExactSqrtRow.holds Tryd.pinned (OpenSpec.ofChange fnExactSqrtWrong)

/-- 'laws.FnExactAdd': WHATEVER THE INPUT: true; the input reads as it did. -/
def fnExactAddSpec : ChangeSpec := { name := "fnExactAdd", vars := ["loop.example/s01330/impl.formats"], fn := fun _ => fun
  | [d1, d2, d3, d4, g1] => { results := [.lit (.bool true)], args := [d1, d2, d3, d4], vars := [g1] }
  | _ => none }
def fnExactAddRow : OpenClaim := { program := "ytkflpogmhailhaadoor", sum := "816d6e1e736caaeeb42f19b082b3445e0c0af0c0d5959210a20ea01676d8cb1b", func := "loop.example/s01330/laws.FnExactAdd", spec := "fnExactAdd", inPlace := ["math/bits.Sub64", "math/bits.Add64"], unfollowed := true, recurses := true, named := ["loop.example/s01330/impl.formats"], apart := false, laid := [("loop.example/s01330/impl.formats", laid_loop_example_s01330_impl_formats)] }
def FnExactAddSaid : Prop := fnExactAddRow.holds Tryd.pinned (OpenSpec.ofChange fnExactAddSpec)

/-- ITS FALSE NEIGHBOUR: 'it returns false'. Refute it at one input. -/
def fnExactAddWrong : ChangeSpec := { name := "fnExactAdd", vars := ["loop.example/s01330/impl.formats"], fn := fun _ => fun
  | [d1, d2, d3, d4, g1] => { results := [.lit (.bool false)], args := [d1, d2, d3, d4], vars := [g1] }
  | _ => none }
def FnExactAddWrongFalsely : Prop := fnExactAddRow.holds Tryd.pinned (OpenSpec.ofChange fnExactAddWrong)

/-- 'laws.FnExactMul': WHATEVER THE INPUT: true; the input reads as it did. -/
def fnExactMulSpec : ChangeSpec := { name := "fnExactMul", vars := ["loop.example/s01330/impl.formats"], fn := fun _ => fun
  | [d1, d2, d3, d4, g1] => { results := [.lit (.bool true)], args := [d1, d2, d3, d4], vars := [g1] }
  | _ => none }
def fnExactMulRow : OpenClaim := { program := "ytkflpogmhailhaadoor", sum := "816d6e1e736caaeeb42f19b082b3445e0c0af0c0d5959210a20ea01676d8cb1b", func := "loop.example/s01330/laws.FnExactMul", spec := "fnExactMul", inPlace := ["math/bits.Add64"], unfollowed := true, recurses := true, named := ["loop.example/s01330/impl.formats"], apart := false, laid := [("loop.example/s01330/impl.formats", laid_loop_example_s01330_impl_formats)] }
def FnExactMulSaid : Prop := fnExactMulRow.holds Tryd.pinned (OpenSpec.ofChange fnExactMulSpec)

/-- ITS FALSE NEIGHBOUR: 'it returns false'. Refute it at one input. -/
def fnExactMulWrong : ChangeSpec := { name := "fnExactMul", vars := ["loop.example/s01330/impl.formats"], fn := fun _ => fun
  | [d1, d2, d3, d4, g1] => { results := [.lit (.bool false)], args := [d1, d2, d3, d4], vars := [g1] }
  | _ => none }
def FnExactMulWrongFalsely : Prop := fnExactMulRow.holds Tryd.pinned (OpenSpec.ofChange fnExactMulWrong)

/-- 'laws.FnExactSub': WHATEVER THE INPUT: true; the input reads as it did. -/
def fnExactSubSpec : ChangeSpec := { name := "fnExactSub", vars := ["loop.example/s01330/impl.formats"], fn := fun _ => fun
  | [d1, d2, d3, d4, g1] => { results := [.lit (.bool true)], args := [d1, d2, d3, d4], vars := [g1] }
  | _ => none }
def fnExactSubRow : OpenClaim := { program := "ytkflpogmhailhaadoor", sum := "816d6e1e736caaeeb42f19b082b3445e0c0af0c0d5959210a20ea01676d8cb1b", func := "loop.example/s01330/laws.FnExactSub", spec := "fnExactSub", inPlace := ["math/bits.Sub64", "math/bits.Add64"], unfollowed := true, recurses := true, named := ["loop.example/s01330/impl.formats"], apart := false, laid := [("loop.example/s01330/impl.formats", laid_loop_example_s01330_impl_formats)] }
def FnExactSubSaid : Prop := fnExactSubRow.holds Tryd.pinned (OpenSpec.ofChange fnExactSubSpec)

/-- ITS FALSE NEIGHBOUR: 'it returns false'. Refute it at one input. -/
def fnExactSubWrong : ChangeSpec := { name := "fnExactSub", vars := ["loop.example/s01330/impl.formats"], fn := fun _ => fun
  | [d1, d2, d3, d4, g1] => { results := [.lit (.bool false)], args := [d1, d2, d3, d4], vars := [g1] }
  | _ => none }
def FnExactSubWrongFalsely : Prop := fnExactSubRow.holds Tryd.pinned (OpenSpec.ofChange fnExactSubWrong)

/-- 'laws.FnExactFma': WHATEVER THE INPUT: true; the input reads as it did. -/
def fnExactFmaSpec : ChangeSpec := { name := "fnExactFma", vars := ["loop.example/s01330/impl.formats"], fn := fun _ => fun
  | [d1, d2, d3, d4, d5, g1] => { results := [.lit (.bool true)], args := [d1, d2, d3, d4, d5], vars := [g1] }
  | _ => none }
def fnExactFmaRow : OpenClaim := { program := "ytkflpogmhailhaadoor", sum := "816d6e1e736caaeeb42f19b082b3445e0c0af0c0d5959210a20ea01676d8cb1b", func := "loop.example/s01330/laws.FnExactFma", spec := "fnExactFma", inPlace := ["math/bits.Add64", "math/bits.Sub64"], unfollowed := true, recurses := true, named := ["loop.example/s01330/impl.formats"], apart := false, laid := [("loop.example/s01330/impl.formats", laid_loop_example_s01330_impl_formats)] }
def FnExactFmaSaid : Prop := fnExactFmaRow.holds Tryd.pinned (OpenSpec.ofChange fnExactFmaSpec)

/-- ITS FALSE NEIGHBOUR: 'it returns false'. Refute it at one input. -/
def fnExactFmaWrong : ChangeSpec := { name := "fnExactFma", vars := ["loop.example/s01330/impl.formats"], fn := fun _ => fun
  | [d1, d2, d3, d4, d5, g1] => { results := [.lit (.bool false)], args := [d1, d2, d3, d4, d5], vars := [g1] }
  | _ => none }
def FnExactFmaWrongFalsely : Prop := fnExactFmaRow.holds Tryd.pinned (OpenSpec.ofChange fnExactFmaWrong)

/- THE SECOND FORM. 'bulk': how many values and letters a reading holds, each counted each time it is reached (what is shared counts as often as it is met; a slice's spare places count too). A statement '..UptoSaid' is the law's where the arguments, and the package variables that the reading takes, are together of bulk at most 1048576: NARROWER than '..Said'. Prove '..Said' where nothing that the law and all that it calls make is longer than what came in: it says more and counts as full. Else prove '..UptoSaid'. A law counts once. -/
mutual
def uptoBulk {H : Type} : DataW H → Nat
  | .lit (.string bytes) => bytes.length + 1
  | .lit _ => 1
  | .nil => 1
  | .ptr d => uptoBulk d + 1
  | .slice elems spare => uptoBulkAll elems + uptoBulkAll spare + 1
  | .agg parts => uptoBulkAll parts + 1
  | .iface _ d => uptoBulk d + 1
  | .map entries => uptoBulkEntries entries + 1
  | .held _ => 1
def uptoBulkAll {H : Type} : List (DataW H) → Nat
  | [] => 0
  | d :: r => uptoBulk d + uptoBulkAll r
def uptoBulkEntries {H : Type} : List (Lit × DataW H) → Nat
  | [] => 0
  | x :: r => uptoBulkEntry x + uptoBulkEntries r
def uptoBulkEntry {H : Type} : Lit × DataW H → Nat
  | (.string bytes, d) => bytes.length + uptoBulk d + 1
  | (_, d) => uptoBulk d + 1
 end
def uptoSmall : (H : Type) → List (DataW H) → Bool := fun _ ds => decide (uptoBulkAll ds ≤ 1048576)
def OpenSpec.upto (s : _root_.Go.ChangeSpec) : _root_.Go.OpenSpec := { _root_.Go.OpenSpec.ofChange s with cond := some uptoSmall }

/-- 'laws.FnExactRem', WHERE WHAT IT READS IS OF BULK AT MOST 1048576: true; the input reads as it did. -/
def fnExactRemUptoRow : OpenClaim := { program := "ytkflpogmhailhaadoor", sum := "816d6e1e736caaeeb42f19b082b3445e0c0af0c0d5959210a20ea01676d8cb1b", func := "loop.example/s01330/laws.FnExactRem", spec := "fnExactRem", unfollowed := true, recurses := true, named := ["loop.example/s01330/impl.formats"], apart := false, laid := [("loop.example/s01330/impl.formats", laid_loop_example_s01330_impl_formats)], narrowed := true }
def FnExactRemUptoSaid : Prop := fnExactRemUptoRow.holds Tryd.pinned (OpenSpec.upto fnExactRemSpec)

/-- 'laws.FnExactDiv', WHERE WHAT IT READS IS OF BULK AT MOST 1048576: true; the input reads as it did. -/
def fnExactDivUptoRow : OpenClaim := { program := "ytkflpogmhailhaadoor", sum := "816d6e1e736caaeeb42f19b082b3445e0c0af0c0d5959210a20ea01676d8cb1b", func := "loop.example/s01330/laws.FnExactDiv", spec := "fnExactDiv", unfollowed := true, recurses := true, named := ["loop.example/s01330/impl.formats"], apart := false, laid := [("loop.example/s01330/impl.formats", laid_loop_example_s01330_impl_formats)], narrowed := true }
def FnExactDivUptoSaid : Prop := fnExactDivUptoRow.holds Tryd.pinned (OpenSpec.upto fnExactDivSpec)

/-- 'laws.FnExactSqrt', WHERE WHAT IT READS IS OF BULK AT MOST 1048576: true; the input reads as it did. -/
def fnExactSqrtUptoRow : OpenClaim := { program := "ytkflpogmhailhaadoor", sum := "816d6e1e736caaeeb42f19b082b3445e0c0af0c0d5959210a20ea01676d8cb1b", func := "loop.example/s01330/laws.FnExactSqrt", spec := "fnExactSqrt", unfollowed := true, recurses := true, named := ["loop.example/s01330/impl.formats"], apart := false, laid := [("loop.example/s01330/impl.formats", laid_loop_example_s01330_impl_formats)], narrowed := true }
def FnExactSqrtUptoSaid : Prop := fnExactSqrtUptoRow.holds Tryd.pinned (OpenSpec.upto fnExactSqrtSpec)

/-- 'laws.FnExactAdd', WHERE WHAT IT READS IS OF BULK AT MOST 1048576: true; the input reads as it did. -/
def fnExactAddUptoRow : OpenClaim := { program := "ytkflpogmhailhaadoor", sum := "816d6e1e736caaeeb42f19b082b3445e0c0af0c0d5959210a20ea01676d8cb1b", func := "loop.example/s01330/laws.FnExactAdd", spec := "fnExactAdd", inPlace := ["math/bits.Sub64", "math/bits.Add64"], unfollowed := true, recurses := true, named := ["loop.example/s01330/impl.formats"], apart := false, laid := [("loop.example/s01330/impl.formats", laid_loop_example_s01330_impl_formats)], narrowed := true }
def FnExactAddUptoSaid : Prop := fnExactAddUptoRow.holds Tryd.pinned (OpenSpec.upto fnExactAddSpec)

/-- 'laws.FnExactMul', WHERE WHAT IT READS IS OF BULK AT MOST 1048576: true; the input reads as it did. -/
def fnExactMulUptoRow : OpenClaim := { program := "ytkflpogmhailhaadoor", sum := "816d6e1e736caaeeb42f19b082b3445e0c0af0c0d5959210a20ea01676d8cb1b", func := "loop.example/s01330/laws.FnExactMul", spec := "fnExactMul", inPlace := ["math/bits.Add64"], unfollowed := true, recurses := true, named := ["loop.example/s01330/impl.formats"], apart := false, laid := [("loop.example/s01330/impl.formats", laid_loop_example_s01330_impl_formats)], narrowed := true }
def FnExactMulUptoSaid : Prop := fnExactMulUptoRow.holds Tryd.pinned (OpenSpec.upto fnExactMulSpec)

/-- 'laws.FnExactSub', WHERE WHAT IT READS IS OF BULK AT MOST 1048576: true; the input reads as it did. -/
def fnExactSubUptoRow : OpenClaim := { program := "ytkflpogmhailhaadoor", sum := "816d6e1e736caaeeb42f19b082b3445e0c0af0c0d5959210a20ea01676d8cb1b", func := "loop.example/s01330/laws.FnExactSub", spec := "fnExactSub", inPlace := ["math/bits.Sub64", "math/bits.Add64"], unfollowed := true, recurses := true, named := ["loop.example/s01330/impl.formats"], apart := false, laid := [("loop.example/s01330/impl.formats", laid_loop_example_s01330_impl_formats)], narrowed := true }
def FnExactSubUptoSaid : Prop := fnExactSubUptoRow.holds Tryd.pinned (OpenSpec.upto fnExactSubSpec)

/-- 'laws.FnExactFma', WHERE WHAT IT READS IS OF BULK AT MOST 1048576: true; the input reads as it did. -/
def fnExactFmaUptoRow : OpenClaim := { program := "ytkflpogmhailhaadoor", sum := "816d6e1e736caaeeb42f19b082b3445e0c0af0c0d5959210a20ea01676d8cb1b", func := "loop.example/s01330/laws.FnExactFma", spec := "fnExactFma", inPlace := ["math/bits.Add64", "math/bits.Sub64"], unfollowed := true, recurses := true, named := ["loop.example/s01330/impl.formats"], apart := false, laid := [("loop.example/s01330/impl.formats", laid_loop_example_s01330_impl_formats)], narrowed := true }
def FnExactFmaUptoSaid : Prop := fnExactFmaUptoRow.holds Tryd.pinned (OpenSpec.upto fnExactFmaSpec)

end Rows
end Go.Proofs.YtkflpogmhailhaaDoor
