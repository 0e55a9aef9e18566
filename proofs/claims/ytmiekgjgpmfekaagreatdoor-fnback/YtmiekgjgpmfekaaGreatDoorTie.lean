/-
  DERIVED. GIVEN WITH THE SEED: THE PROGRAM's TIES (one call each: nine closed facts by the kernel) AND EACH ROW's TIE, after the 31st guide's Derived/Test/Toyas{Tie, Card}.lean. No idea stands in it: it is a product of the set-up. Laid BY PROGRAM, IN A SANDBOX (cutbox-door.mjs). By AI agents, Wed Nov 11 2026. No macro, syntax, notation, axiom, sorry.
-/
import Derived.Test.YtmiekgjgpmfekaaGreatDoorRows
import Derived.LaidByTextLater
import Derived.SevenTiedAt
import Derived.LaidSub
import Derived.LaidOnce
namespace Go.Proofs.YtmiekgjgpmfekaaGreatDoor
open Go
set_option maxRecDepth 100000
theorem seatTie1 : Tryz.prog.laidByTextLater [("loop.example/s01330/impl.formats", Rows.laid_loop_example_s01330_impl_formats), ("loop.example/s01330/impl.tails", Rows.laid_loop_example_s01330_impl_tails), ("loop.example/s01330/impl.decays", Rows.laid_loop_example_s01330_impl_decays)] [.wider, .data, .data] true :=
  Program.laidByTextLater_by_one 26 8 39 (by kernel_rfl) (by kernel_rfl) (by kernel_rfl) (by kernel_rfl) (by kernel_rfl) (by kernel_rfl) (fun _ _ => by kernel_rfl)
theorem noOwnUnsafe : Tryz.pinned.checked.prog.headLifts.contains "ownunsafe" = false := by kernel_rfl
theorem tie : Tryz.prog.laidByTextLater [("loop.example/s01330/impl.formats", Rows.laid_loop_example_s01330_impl_formats)] [.wider] true :=
  Program.laidByTextLater.sub seatTie1 ["loop.example/s01330/impl.formats"] (by kernel_rfl) (by kernel_rfl)
theorem fnExactRoots_row_tie : Rows.fnExactRootsRow.laidByTextAt .later Tryz.pinned [.wider] true :=
  OpenClaim.laidByTextAt_later rfl rfl tie noOwnUnsafe
theorem fnExactTransform_row_tie : Rows.fnExactTransformRow.laidByTextAt .later Tryz.pinned [.wider] true :=
  OpenClaim.laidByTextAt_later rfl rfl tie noOwnUnsafe
theorem fnExactBack_row_tie : Rows.fnExactBackRow.laidByTextAt .later Tryz.pinned [.wider] true :=
  OpenClaim.laidByTextAt_later rfl rfl tie noOwnUnsafe
theorem fnProduct_row_tie : Rows.fnProductRow.laidByTextAt .later Tryz.pinned [.wider] true :=
  OpenClaim.laidByTextAt_later rfl rfl tie noOwnUnsafe
theorem fnExactProduct_row_tie : Rows.fnExactProductRow.laidByTextAt .later Tryz.pinned [.wider] true :=
  OpenClaim.laidByTextAt_later rfl rfl tie noOwnUnsafe
theorem fnBack_row_tie : Rows.fnBackRow.laidByTextAt .later Tryz.pinned [.wider] true :=
  OpenClaim.laidByTextAt_later rfl rfl tie noOwnUnsafe
theorem tie2 : Tryz.prog.laidByTextLater [("loop.example/s01330/impl.formats", Rows.laid_loop_example_s01330_impl_formats), ("loop.example/s01330/impl.tails", Rows.laid_loop_example_s01330_impl_tails), ("loop.example/s01330/impl.decays", Rows.laid_loop_example_s01330_impl_decays)] [.wider, .data, .data] true :=
  Program.laidByTextLater.sub seatTie1 ["loop.example/s01330/impl.formats", "loop.example/s01330/impl.tails", "loop.example/s01330/impl.decays"] (by kernel_rfl) (by kernel_rfl)
theorem fnExactSample_row_tie : Rows.fnExactSampleRow.laidByTextAt .later Tryz.pinned [.wider, .data, .data] true :=
  OpenClaim.laidByTextAt_later rfl rfl tie2 noOwnUnsafe
theorem fnSample_row_tie : Rows.fnSampleRow.laidByTextAt .later Tryz.pinned [.wider, .data, .data] true :=
  OpenClaim.laidByTextAt_later rfl rfl tie2 noOwnUnsafe
theorem fnExactRootsUpto_row_tie : Rows.fnExactRootsUptoRow.laidByTextAt .later Tryz.pinned [.wider] true :=
  OpenClaim.laidByTextAt_later rfl rfl tie noOwnUnsafe
theorem fnExactTransformUpto_row_tie : Rows.fnExactTransformUptoRow.laidByTextAt .later Tryz.pinned [.wider] true :=
  OpenClaim.laidByTextAt_later rfl rfl tie noOwnUnsafe
theorem fnExactSampleUpto_row_tie : Rows.fnExactSampleUptoRow.laidByTextAt .later Tryz.pinned [.wider, .data, .data] true :=
  OpenClaim.laidByTextAt_later rfl rfl tie2 noOwnUnsafe
theorem fnExactBackUpto_row_tie : Rows.fnExactBackUptoRow.laidByTextAt .later Tryz.pinned [.wider] true :=
  OpenClaim.laidByTextAt_later rfl rfl tie noOwnUnsafe
theorem fnProductUpto_row_tie : Rows.fnProductUptoRow.laidByTextAt .later Tryz.pinned [.wider] true :=
  OpenClaim.laidByTextAt_later rfl rfl tie noOwnUnsafe
theorem fnExactProductUpto_row_tie : Rows.fnExactProductUptoRow.laidByTextAt .later Tryz.pinned [.wider] true :=
  OpenClaim.laidByTextAt_later rfl rfl tie noOwnUnsafe
theorem fnBackUpto_row_tie : Rows.fnBackUptoRow.laidByTextAt .later Tryz.pinned [.wider] true :=
  OpenClaim.laidByTextAt_later rfl rfl tie noOwnUnsafe
theorem fnSampleUpto_row_tie : Rows.fnSampleUptoRow.laidByTextAt .later Tryz.pinned [.wider, .data, .data] true :=
  OpenClaim.laidByTextAt_later rfl rfl tie2 noOwnUnsafe
end Go.Proofs.YtmiekgjgpmfekaaGreatDoor
