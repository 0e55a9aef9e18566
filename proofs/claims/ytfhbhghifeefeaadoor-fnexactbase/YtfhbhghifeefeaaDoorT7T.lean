/- The table of Base as a laid variable. -/
import Derived.Test.YtfhbhghifeefeaaDoorT7
import Derived.Test.YtfhbhghifeefeaaDoorV7
set_option linter.unusedVariables false
namespace Go.Proofs.YtfhbhghifeefeaaDoor
open Go.ChangeShapes Go.WideShapes Go.ChangeAt Go.RowKit
abbrev nameT : String := "loop.example/s01330/impl.tails"
theorem gT : Tryd.prog.globalNamed nameT = some 0 := by kernel_rfl
theorem tT : (Tryd.prog.globals[0]?).map (·.type) = some 32 := by kernel_rfl
theorem cellsT : Tryd.prog.cellsOf 32 = 18 := by kernel_rfl
theorem tailC_row : (rowC tailL).toArray = tailC := rfl
theorem readsT {H : Type} (enc : TypeId × Value → H) (W : World) (sp : Nat → Bool) : DataW.trod enc Tryd.prog W 0 sp true 4 32 tailC.toList = some (rowD tailL, []) := by kernel_rfl
theorem varT {W : World} (h : ∃ g t cs fuel p sp, Tryd.prog.globalNamed nameT = some g ∧ (Tryd.prog.globals[g]?).map (·.type) = some t ∧ W.var? Tryd.prog nameT = some cs ∧ DataW.trod (fun _ => ()) Tryd.prog W 0 sp false fuel t cs.toList = some (Rows.laid_loop_example_s01330_impl_tails, p)) : W.var? Tryd.prog nameT = some tailC :=
  var_of_laid (ns := tailL) gT tT Tryd.underlying32 cellsT h
theorem tl_of_var {W : World} (h : W.var? Tryd.prog nameT = some tailC) : Tl W := heap_of_var gT h
end Go.Proofs.YtfhbhghifeefeaaDoor
