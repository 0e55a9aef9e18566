/-
  NARROWER THAN 'FOR EVERY INPUT', by the rows' own cells (each row's printed sentence says how): FnExactRoots: laid · FnExactTransform: laid · FnExactSample: laid · FnExactBack: laid · FnProduct: laid · FnExactProduct: laid · FnBack: laid · FnSample: laid.
  DERIVED. THE GIVEN ROWS OF THIS SEAT. 8 by the template 'for every input the law returns true; each argument reads behind the call as it read before'; 0 by the template 'total and deterministic' (their statements: YtmiekgjgpmfekaaGreatDoorTotals.lean).
  GIVEN WITH THE SEED: the statements are not yours to turn. If you find one false, say at which input.
  Laid BY PROGRAM, IN A SANDBOX (cutbox-rows.mjs): the forced cells as the released guide's own fill.sh prints them over the translation 05d229af34fb22bb… (all of the seat's roots in one cut). By AI agents, Wed Nov 11 2026. No macro, syntax, notation, axiom, sorry.
-/
import Derived.Test.YtmiekgjgpmfekaaGreatDoorChecked
import GoSem.Claim
import GoSem.ClaimJoined
import GoSem.ClaimMapViews
import Derived.JoinedTies
import Derived.KernelRfl
namespace Go.Proofs.YtmiekgjgpmfekaaGreatDoor
/- THE CELL 'sum', in the pinned program and in every row, IS THE sha256 OF THE DUMP (.gsa) THAT YtmiekgjgpmfekaaGreatDoorProg.lean LOADS. Nothing in Lean hashes anything: it is a label: what it is worth is what the hold of that sum in a sandbox is worth. -/
noncomputable def Tryz.pinned : Pinned := { name := "ytmiekgjgpmfekaagreatdoor", sum := "05d229af34fb22bb235b6b3b8cd7e365d989f3f9a15f0bce4a8bcf3fa9fb8765", checked := Tryz.checked }
namespace Rows
def none {H : Type} : Left H := { results := [], args := [] }

/- WHAT THE LISTED PACKAGE-LEVEL VARIABLES READ AS WHEN THE CALL BEGINS. Each datum BY PROGRAM (the guide's laid-datum.mjs) off the statement by which the dump's own 'gosem.cut.vars' lays the variable. In a bare row this is a premise. The card (YtmiekgjgpmfekaaGreatDoorCards.lean) ties it to the program's text. -/
def laid_loop_example_s01330_impl_formats {H : Type} : DataW H := .agg [.agg [.lit (.int .i64 24), .lit (.int .i64 (-126)), .lit (.int .i64 127)], .agg [.lit (.int .i64 53), .lit (.int .i64 (-1022)), .lit (.int .i64 1023)]]
def laid_loop_example_s01330_impl_tails {H : Type} : DataW H := .agg [.lit (.int .u64 12311384997445461060), .lit (.int .u64 6896949616398116700), .lit (.int .u64 3175666228297764653), .lit (.int .u64 1183806766059182244), .lit (.int .u64 353476207714659139), .lit (.int .u64 83907343225073545), .lit (.int .u64 15749660485982248), .lit (.int .u64 2328616999791800), .lit (.int .u64 270433320942720), .lit (.int .u64 24618334939658), .lit (.int .u64 1753979576257), .lit (.int .u64 97691228987), .lit (.int .u64 4249834529), .lit (.int .u64 144306183), .lit (.int .u64 3822728), .lit (.int .u64 78971), .lit (.int .u64 1272), .lit (.int .u64 16)]
def laid_loop_example_s01330_impl_decays {H : Type} : DataW H := .agg [.lit (.int .u64 9223372034707292160), .lit (.int .u64 9223372032559808513), .lit (.int .u64 9223372028264841220), .lit (.int .u64 9223372019674906640), .lit (.int .u64 9223372002495037504), .lit (.int .u64 9223371968135299328), .lit (.int .u64 9223371899415823360), .lit (.int .u64 9223371761976872960), .lit (.int .u64 9223371487098978304), .lit (.int .u64 9223370937343213568), .lit (.int .u64 9223369837831782400), .lit (.int .u64 9223367638809313280), .lit (.int .u64 9223363240765947903), .lit (.int .u64 9223354444685508597), .lit (.int .u64 9223336852549795755), .lit (.int .u64 9223301668379032917), .lit (.int .u64 9223231300440156843), .lit (.int .u64 9223090566172988758), .lit (.int .u64 9222809104080874160), .lit (.int .u64 9222246205664613803), .lit (.int .u64 9221120511896629248), .lit (.int .u64 9218869536560097961), .lit (.int .u64 9214369234215239612), .lit (.int .u64 9205375219083682339), .lit (.int .u64 9187413517043429148), .lit (.int .u64 9151595186215228390), .lit (.int .u64 9080376907458843210), .lit (.int .u64 8939598712059420229), .lit (.int .u64 8664556174609911609), .lit (.int .u64 8139597253909710366), .lit (.int .u64 7183169364861397922), .lit (.int .u64 5594257926288582650), .lit (.int .u64 3393088950634442637), .lit (.int .u64 1248247667004394400), .lit (.int .u64 168931951563480719), .lit (.int .u64 3094096621605846), .lit (.int .u64 1037953783668), .lit (.int .u64 116806)]

/-- 'laws.FnExactRoots': WHATEVER THE INPUT: true; the input reads as it did. -/
def fnExactRootsSpec : ChangeSpec := { name := "fnExactRoots", vars := ["loop.example/s01330/impl.formats"], fn := fun _ => fun
  | [d, g1] => { results := [.lit (.bool true)], args := [d], vars := [g1] }
  | _ => none }
def fnExactRootsRow : OpenClaim := { program := "ytmiekgjgpmfekaagreatdoor", sum := "05d229af34fb22bb235b6b3b8cd7e365d989f3f9a15f0bce4a8bcf3fa9fb8765", func := "loop.example/s01330/laws.FnExactRoots", spec := "fnExactRoots", inPlace := ["math/bits.Sub64", "math/bits.Add64"], unfollowed := true, recurses := true, named := ["loop.example/s01330/impl.formats"], apart := false, laid := [("loop.example/s01330/impl.formats", laid_loop_example_s01330_impl_formats)] }
def FnExactRootsSaid : Prop := fnExactRootsRow.holds Tryz.pinned (OpenSpec.ofChange fnExactRootsSpec)

/-- ITS FALSE NEIGHBOUR: 'it returns false'. Refute it at one input. -/
def fnExactRootsWrong : ChangeSpec := { name := "fnExactRoots", vars := ["loop.example/s01330/impl.formats"], fn := fun _ => fun
  | [d, g1] => { results := [.lit (.bool false)], args := [d], vars := [g1] }
  | _ => none }
def FnExactRootsWrongFalsely : Prop := fnExactRootsRow.holds Tryz.pinned (OpenSpec.ofChange fnExactRootsWrong)

/-- 'laws.FnExactTransform': WHATEVER THE INPUT: true; the input reads as it did. -/
def fnExactTransformSpec : ChangeSpec := { name := "fnExactTransform", vars := ["loop.example/s01330/impl.formats"], fn := fun _ => fun
  | [d1, d2, g1] => { results := [.lit (.bool true)], args := [d1, d2], vars := [g1] }
  | _ => none }
def fnExactTransformRow : OpenClaim := { program := "ytmiekgjgpmfekaagreatdoor", sum := "05d229af34fb22bb235b6b3b8cd7e365d989f3f9a15f0bce4a8bcf3fa9fb8765", func := "loop.example/s01330/laws.FnExactTransform", spec := "fnExactTransform", inPlace := ["math/bits.Sub64", "math/bits.Add64"], unfollowed := true, recurses := true, named := ["loop.example/s01330/impl.formats"], apart := false, laid := [("loop.example/s01330/impl.formats", laid_loop_example_s01330_impl_formats)] }
def FnExactTransformSaid : Prop := fnExactTransformRow.holds Tryz.pinned (OpenSpec.ofChange fnExactTransformSpec)

/-- ITS FALSE NEIGHBOUR: 'it returns false'. Refute it at one input. -/
def fnExactTransformWrong : ChangeSpec := { name := "fnExactTransform", vars := ["loop.example/s01330/impl.formats"], fn := fun _ => fun
  | [d1, d2, g1] => { results := [.lit (.bool false)], args := [d1, d2], vars := [g1] }
  | _ => none }
def FnExactTransformWrongFalsely : Prop := fnExactTransformRow.holds Tryz.pinned (OpenSpec.ofChange fnExactTransformWrong)

/-- 'laws.FnExactSample': WHATEVER THE INPUT: true; the input reads as it did. -/
def fnExactSampleSpec : ChangeSpec := { name := "fnExactSample", vars := ["loop.example/s01330/impl.formats", "loop.example/s01330/impl.tails", "loop.example/s01330/impl.decays"], fn := fun _ => fun
  | [d1, d2, d3, d4, g1, g2, g3] => { results := [.lit (.bool true)], args := [d1, d2, d3, d4], vars := [g1, g2, g3] }
  | _ => none }
def fnExactSampleRow : OpenClaim := { program := "ytmiekgjgpmfekaagreatdoor", sum := "05d229af34fb22bb235b6b3b8cd7e365d989f3f9a15f0bce4a8bcf3fa9fb8765", func := "loop.example/s01330/laws.FnExactSample", spec := "fnExactSample", inPlace := ["math/bits.Sub64", "math/bits.Add64"], unfollowed := true, recurses := true, named := ["loop.example/s01330/impl.formats", "loop.example/s01330/impl.tails", "loop.example/s01330/impl.decays"], apart := false, laid := [("loop.example/s01330/impl.formats", laid_loop_example_s01330_impl_formats), ("loop.example/s01330/impl.tails", laid_loop_example_s01330_impl_tails), ("loop.example/s01330/impl.decays", laid_loop_example_s01330_impl_decays)] }
def FnExactSampleSaid : Prop := fnExactSampleRow.holds Tryz.pinned (OpenSpec.ofChange fnExactSampleSpec)

/-- ITS FALSE NEIGHBOUR: 'it returns false'. Refute it at one input. -/
def fnExactSampleWrong : ChangeSpec := { name := "fnExactSample", vars := ["loop.example/s01330/impl.formats", "loop.example/s01330/impl.tails", "loop.example/s01330/impl.decays"], fn := fun _ => fun
  | [d1, d2, d3, d4, g1, g2, g3] => { results := [.lit (.bool false)], args := [d1, d2, d3, d4], vars := [g1, g2, g3] }
  | _ => none }
def FnExactSampleWrongFalsely : Prop := fnExactSampleRow.holds Tryz.pinned (OpenSpec.ofChange fnExactSampleWrong)

/-- 'laws.FnExactBack': WHATEVER THE INPUT: true; the input reads as it did. -/
def fnExactBackSpec : ChangeSpec := { name := "fnExactBack", vars := ["loop.example/s01330/impl.formats"], fn := fun _ => fun
  | [d1, d2, g1] => { results := [.lit (.bool true)], args := [d1, d2], vars := [g1] }
  | _ => none }
def fnExactBackRow : OpenClaim := { program := "ytmiekgjgpmfekaagreatdoor", sum := "05d229af34fb22bb235b6b3b8cd7e365d989f3f9a15f0bce4a8bcf3fa9fb8765", func := "loop.example/s01330/laws.FnExactBack", spec := "fnExactBack", inPlace := ["math/bits.Sub64", "math/bits.Add64"], unfollowed := true, recurses := true, named := ["loop.example/s01330/impl.formats"], apart := false, laid := [("loop.example/s01330/impl.formats", laid_loop_example_s01330_impl_formats)] }
def FnExactBackSaid : Prop := fnExactBackRow.holds Tryz.pinned (OpenSpec.ofChange fnExactBackSpec)

/-- ITS FALSE NEIGHBOUR: 'it returns false'. Refute it at one input. -/
def fnExactBackWrong : ChangeSpec := { name := "fnExactBack", vars := ["loop.example/s01330/impl.formats"], fn := fun _ => fun
  | [d1, d2, g1] => { results := [.lit (.bool false)], args := [d1, d2], vars := [g1] }
  | _ => none }
def FnExactBackWrongFalsely : Prop := fnExactBackRow.holds Tryz.pinned (OpenSpec.ofChange fnExactBackWrong)

/-- 'laws.FnProduct': WHATEVER THE INPUT: true; the input reads as it did. -/
def fnProductSpec : ChangeSpec := { name := "fnProduct", vars := ["loop.example/s01330/impl.formats"], fn := fun _ => fun
  | [d, g1] => { results := [.lit (.bool true)], args := [d], vars := [g1] }
  | _ => none }
def fnProductRow : OpenClaim := { program := "ytmiekgjgpmfekaagreatdoor", sum := "05d229af34fb22bb235b6b3b8cd7e365d989f3f9a15f0bce4a8bcf3fa9fb8765", func := "loop.example/s01330/laws.FnProduct", spec := "fnProduct", inPlace := ["math/bits.Sub64", "math/bits.Add64"], unfollowed := true, recurses := true, named := ["loop.example/s01330/impl.formats"], apart := false, laid := [("loop.example/s01330/impl.formats", laid_loop_example_s01330_impl_formats)] }
def FnProductSaid : Prop := fnProductRow.holds Tryz.pinned (OpenSpec.ofChange fnProductSpec)

/-- ITS FALSE NEIGHBOUR: 'it returns false'. Refute it at one input. -/
def fnProductWrong : ChangeSpec := { name := "fnProduct", vars := ["loop.example/s01330/impl.formats"], fn := fun _ => fun
  | [d, g1] => { results := [.lit (.bool false)], args := [d], vars := [g1] }
  | _ => none }
def FnProductWrongFalsely : Prop := fnProductRow.holds Tryz.pinned (OpenSpec.ofChange fnProductWrong)

/-- 'laws.FnExactProduct': WHATEVER THE INPUT: true; the input reads as it did. -/
def fnExactProductSpec : ChangeSpec := { name := "fnExactProduct", vars := ["loop.example/s01330/impl.formats"], fn := fun _ => fun
  | [d1, d2, d3, g1] => { results := [.lit (.bool true)], args := [d1, d2, d3], vars := [g1] }
  | _ => none }
def fnExactProductRow : OpenClaim := { program := "ytmiekgjgpmfekaagreatdoor", sum := "05d229af34fb22bb235b6b3b8cd7e365d989f3f9a15f0bce4a8bcf3fa9fb8765", func := "loop.example/s01330/laws.FnExactProduct", spec := "fnExactProduct", inPlace := ["math/bits.Sub64", "math/bits.Add64"], unfollowed := true, recurses := true, named := ["loop.example/s01330/impl.formats"], apart := false, laid := [("loop.example/s01330/impl.formats", laid_loop_example_s01330_impl_formats)] }
def FnExactProductSaid : Prop := fnExactProductRow.holds Tryz.pinned (OpenSpec.ofChange fnExactProductSpec)

/-- ITS FALSE NEIGHBOUR: 'it returns false'. Refute it at one input. -/
def fnExactProductWrong : ChangeSpec := { name := "fnExactProduct", vars := ["loop.example/s01330/impl.formats"], fn := fun _ => fun
  | [d1, d2, d3, g1] => { results := [.lit (.bool false)], args := [d1, d2, d3], vars := [g1] }
  | _ => none }
def FnExactProductWrongFalsely : Prop := fnExactProductRow.holds Tryz.pinned (OpenSpec.ofChange fnExactProductWrong)

/-- 'laws.FnBack': WHATEVER THE INPUT: true; the input reads as it did. -/
def fnBackSpec : ChangeSpec := { name := "fnBack", vars := ["loop.example/s01330/impl.formats"], fn := fun _ => fun
  | [d, g1] => { results := [.lit (.bool true)], args := [d], vars := [g1] }
  | _ => none }
def fnBackRow : OpenClaim := { program := "ytmiekgjgpmfekaagreatdoor", sum := "05d229af34fb22bb235b6b3b8cd7e365d989f3f9a15f0bce4a8bcf3fa9fb8765", func := "loop.example/s01330/laws.FnBack", spec := "fnBack", inPlace := ["math/bits.Sub64", "math/bits.Add64"], unfollowed := true, recurses := true, named := ["loop.example/s01330/impl.formats"], apart := false, laid := [("loop.example/s01330/impl.formats", laid_loop_example_s01330_impl_formats)] }
def FnBackSaid : Prop := fnBackRow.holds Tryz.pinned (OpenSpec.ofChange fnBackSpec)

/-- ITS FALSE NEIGHBOUR: 'it returns false'. Refute it at one input. -/
def fnBackWrong : ChangeSpec := { name := "fnBack", vars := ["loop.example/s01330/impl.formats"], fn := fun _ => fun
  | [d, g1] => { results := [.lit (.bool false)], args := [d], vars := [g1] }
  | _ => none }
def FnBackWrongFalsely : Prop := fnBackRow.holds Tryz.pinned (OpenSpec.ofChange fnBackWrong)

/-- 'laws.FnSample': WHATEVER THE INPUT: true; the input reads as it did. -/
def fnSampleSpec : ChangeSpec := { name := "fnSample", vars := ["loop.example/s01330/impl.formats", "loop.example/s01330/impl.tails", "loop.example/s01330/impl.decays"], fn := fun _ => fun
  | [d1, d2, g1, g2, g3] => { results := [.lit (.bool true)], args := [d1, d2], vars := [g1, g2, g3] }
  | _ => none }
def fnSampleRow : OpenClaim := { program := "ytmiekgjgpmfekaagreatdoor", sum := "05d229af34fb22bb235b6b3b8cd7e365d989f3f9a15f0bce4a8bcf3fa9fb8765", func := "loop.example/s01330/laws.FnSample", spec := "fnSample", inPlace := ["math/bits.Sub64", "math/bits.Add64"], unfollowed := true, recurses := true, named := ["loop.example/s01330/impl.formats", "loop.example/s01330/impl.tails", "loop.example/s01330/impl.decays"], apart := false, laid := [("loop.example/s01330/impl.formats", laid_loop_example_s01330_impl_formats), ("loop.example/s01330/impl.tails", laid_loop_example_s01330_impl_tails), ("loop.example/s01330/impl.decays", laid_loop_example_s01330_impl_decays)] }
def FnSampleSaid : Prop := fnSampleRow.holds Tryz.pinned (OpenSpec.ofChange fnSampleSpec)

/-- ITS FALSE NEIGHBOUR: 'it returns false'. Refute it at one input. -/
def fnSampleWrong : ChangeSpec := { name := "fnSample", vars := ["loop.example/s01330/impl.formats", "loop.example/s01330/impl.tails", "loop.example/s01330/impl.decays"], fn := fun _ => fun
  | [d1, d2, g1, g2, g3] => { results := [.lit (.bool false)], args := [d1, d2], vars := [g1, g2, g3] }
  | _ => none }
def FnSampleWrongFalsely : Prop := fnSampleRow.holds Tryz.pinned (OpenSpec.ofChange fnSampleWrong)

/- THE SECOND FORM. 'bulk': how many values and letters a reading holds, each counted each time it is reached (what is shared counts as often as it is met; a slice's spare places count too). A statement '..UptoSaid' is the law's where the arguments, and the package variables that the reading takes, are together of bulk at most 1048576: NARROWER than '..Said'. Prove '..Said' where nothing that the law and all that it calls make is longer than what came in: it says more and counts as full. Else prove '..UptoSaid'. A law counts once. -/
mutual
def uptoBulk {H : Type} : DataW H → Nat
  | .lit (.string bytes) => bytes.length + 1
  | .lit _ => 1
  | .nil => 1
  | .ptr d => uptoBulk d + 1
  | .slice elems spare => uptoBulkAll elems + uptoBulkAll spare + 1
  | .agg parts => uptoBulkAll parts + 1
  | .iface _ d => uptoBulk d + 1
  | .map entries => uptoBulkEntries entries + 1
  | .held _ => 1
def uptoBulkAll {H : Type} : List (DataW H) → Nat
  | [] => 0
  | d :: r => uptoBulk d + uptoBulkAll r
def uptoBulkEntries {H : Type} : List (Lit × DataW H) → Nat
  | [] => 0
  | x :: r => uptoBulkEntry x + uptoBulkEntries r
def uptoBulkEntry {H : Type} : Lit × DataW H → Nat
  | (.string bytes, d) => bytes.length + uptoBulk d + 1
  | (_, d) => uptoBulk d + 1
 end
def uptoSmall : (H : Type) → List (DataW H) → Bool := fun _ ds => decide (uptoBulkAll ds ≤ 1048576)
def OpenSpec.upto (s : _root_.Go.ChangeSpec) : _root_.Go.OpenSpec := { _root_.Go.OpenSpec.ofChange s with cond := some uptoSmall }

/-- 'laws.FnExactRoots', WHERE WHAT IT READS IS OF BULK AT MOST 1048576: true; the input reads as it did. -/
def fnExactRootsUptoRow : OpenClaim := { program := "ytmiekgjgpmfekaagreatdoor", sum := "05d229af34fb22bb235b6b3b8cd7e365d989f3f9a15f0bce4a8bcf3fa9fb8765", func := "loop.example/s01330/laws.FnExactRoots", spec := "fnExactRoots", inPlace := ["math/bits.Sub64", "math/bits.Add64"], unfollowed := true, recurses := true, named := ["loop.example/s01330/impl.formats"], apart := false, laid := [("loop.example/s01330/impl.formats", laid_loop_example_s01330_impl_formats)], narrowed := true }
def FnExactRootsUptoSaid : Prop := fnExactRootsUptoRow.holds Tryz.pinned (OpenSpec.upto fnExactRootsSpec)

/-- 'laws.FnExactTransform', WHERE WHAT IT READS IS OF BULK AT MOST 1048576: true; the input reads as it did. -/
def fnExactTransformUptoRow : OpenClaim := { program := "ytmiekgjgpmfekaagreatdoor", sum := "05d229af34fb22bb235b6b3b8cd7e365d989f3f9a15f0bce4a8bcf3fa9fb8765", func := "loop.example/s01330/laws.FnExactTransform", spec := "fnExactTransform", inPlace := ["math/bits.Sub64", "math/bits.Add64"], unfollowed := true, recurses := true, named := ["loop.example/s01330/impl.formats"], apart := false, laid := [("loop.example/s01330/impl.formats", laid_loop_example_s01330_impl_formats)], narrowed := true }
def FnExactTransformUptoSaid : Prop := fnExactTransformUptoRow.holds Tryz.pinned (OpenSpec.upto fnExactTransformSpec)

/-- 'laws.FnExactSample', WHERE WHAT IT READS IS OF BULK AT MOST 1048576: true; the input reads as it did. -/
def fnExactSampleUptoRow : OpenClaim := { program := "ytmiekgjgpmfekaagreatdoor", sum := "05d229af34fb22bb235b6b3b8cd7e365d989f3f9a15f0bce4a8bcf3fa9fb8765", func := "loop.example/s01330/laws.FnExactSample", spec := "fnExactSample", inPlace := ["math/bits.Sub64", "math/bits.Add64"], unfollowed := true, recurses := true, named := ["loop.example/s01330/impl.formats", "loop.example/s01330/impl.tails", "loop.example/s01330/impl.decays"], apart := false, laid := [("loop.example/s01330/impl.formats", laid_loop_example_s01330_impl_formats), ("loop.example/s01330/impl.tails", laid_loop_example_s01330_impl_tails), ("loop.example/s01330/impl.decays", laid_loop_example_s01330_impl_decays)], narrowed := true }
def FnExactSampleUptoSaid : Prop := fnExactSampleUptoRow.holds Tryz.pinned (OpenSpec.upto fnExactSampleSpec)

/-- 'laws.FnExactBack', WHERE WHAT IT READS IS OF BULK AT MOST 1048576: true; the input reads as it did. -/
def fnExactBackUptoRow : OpenClaim := { program := "ytmiekgjgpmfekaagreatdoor", sum := "05d229af34fb22bb235b6b3b8cd7e365d989f3f9a15f0bce4a8bcf3fa9fb8765", func := "loop.example/s01330/laws.FnExactBack", spec := "fnExactBack", inPlace := ["math/bits.Sub64", "math/bits.Add64"], unfollowed := true, recurses := true, named := ["loop.example/s01330/impl.formats"], apart := false, laid := [("loop.example/s01330/impl.formats", laid_loop_example_s01330_impl_formats)], narrowed := true }
def FnExactBackUptoSaid : Prop := fnExactBackUptoRow.holds Tryz.pinned (OpenSpec.upto fnExactBackSpec)

/-- 'laws.FnProduct', WHERE WHAT IT READS IS OF BULK AT MOST 1048576: true; the input reads as it did. -/
def fnProductUptoRow : OpenClaim := { program := "ytmiekgjgpmfekaagreatdoor", sum := "05d229af34fb22bb235b6b3b8cd7e365d989f3f9a15f0bce4a8bcf3fa9fb8765", func := "loop.example/s01330/laws.FnProduct", spec := "fnProduct", inPlace := ["math/bits.Sub64", "math/bits.Add64"], unfollowed := true, recurses := true, named := ["loop.example/s01330/impl.formats"], apart := false, laid := [("loop.example/s01330/impl.formats", laid_loop_example_s01330_impl_formats)], narrowed := true }
def FnProductUptoSaid : Prop := fnProductUptoRow.holds Tryz.pinned (OpenSpec.upto fnProductSpec)

/-- 'laws.FnExactProduct', WHERE WHAT IT READS IS OF BULK AT MOST 1048576: true; the input reads as it did. -/
def fnExactProductUptoRow : OpenClaim := { program := "ytmiekgjgpmfekaagreatdoor", sum := "05d229af34fb22bb235b6b3b8cd7e365d989f3f9a15f0bce4a8bcf3fa9fb8765", func := "loop.example/s01330/laws.FnExactProduct", spec := "fnExactProduct", inPlace := ["math/bits.Sub64", "math/bits.Add64"], unfollowed := true, recurses := true, named := ["loop.example/s01330/impl.formats"], apart := false, laid := [("loop.example/s01330/impl.formats", laid_loop_example_s01330_impl_formats)], narrowed := true }
def FnExactProductUptoSaid : Prop := fnExactProductUptoRow.holds Tryz.pinned (OpenSpec.upto fnExactProductSpec)

/-- 'laws.FnBack', WHERE WHAT IT READS IS OF BULK AT MOST 1048576: true; the input reads as it did. -/
def fnBackUptoRow : OpenClaim := { program := "ytmiekgjgpmfekaagreatdoor", sum := "05d229af34fb22bb235b6b3b8cd7e365d989f3f9a15f0bce4a8bcf3fa9fb8765", func := "loop.example/s01330/laws.FnBack", spec := "fnBack", inPlace := ["math/bits.Sub64", "math/bits.Add64"], unfollowed := true, recurses := true, named := ["loop.example/s01330/impl.formats"], apart := false, laid := [("loop.example/s01330/impl.formats", laid_loop_example_s01330_impl_formats)], narrowed := true }
def FnBackUptoSaid : Prop := fnBackUptoRow.holds Tryz.pinned (OpenSpec.upto fnBackSpec)

/-- 'laws.FnSample', WHERE WHAT IT READS IS OF BULK AT MOST 1048576: true; the input reads as it did. -/
def fnSampleUptoRow : OpenClaim := { program := "ytmiekgjgpmfekaagreatdoor", sum := "05d229af34fb22bb235b6b3b8cd7e365d989f3f9a15f0bce4a8bcf3fa9fb8765", func := "loop.example/s01330/laws.FnSample", spec := "fnSample", inPlace := ["math/bits.Sub64", "math/bits.Add64"], unfollowed := true, recurses := true, named := ["loop.example/s01330/impl.formats", "loop.example/s01330/impl.tails", "loop.example/s01330/impl.decays"], apart := false, laid := [("loop.example/s01330/impl.formats", laid_loop_example_s01330_impl_formats), ("loop.example/s01330/impl.tails", laid_loop_example_s01330_impl_tails), ("loop.example/s01330/impl.decays", laid_loop_example_s01330_impl_decays)], narrowed := true }
def FnSampleUptoSaid : Prop := fnSampleUptoRow.holds Tryz.pinned (OpenSpec.upto fnSampleSpec)

end Rows
end Go.Proofs.YtmiekgjgpmfekaaGreatDoor
