/- The table of Decay as a laid variable. -/
import Derived.Test.YtfhbhghifeefeaaDoorT7d
import Derived.Test.YtfhbhghifeefeaaDoorV7
set_option linter.unusedVariables false
namespace Go.Proofs.YtfhbhghifeefeaaDoor
open Go.ChangeShapes Go.WideShapes Go.ChangeAt Go.RowKit
abbrev nameD : String := "loop.example/s01330/impl.decays"
theorem gD : Tryd.prog.globalNamed nameD = some 1 := by kernel_rfl
theorem tD : (Tryd.prog.globals[1]?).map (·.type) = some 35 := by kernel_rfl
theorem cellsD : Tryd.prog.cellsOf 35 = 38 := by kernel_rfl
theorem readsD {H : Type} (enc : TypeId × Value → H) (W : World) (sp : Nat → Bool) : DataW.trod enc Tryd.prog W 0 sp true 4 35 decayC.toList = some (rowD decayL, []) := by kernel_rfl
theorem varD {W : World} (h : ∃ g t cs fuel p sp, Tryd.prog.globalNamed nameD = some g ∧ (Tryd.prog.globals[g]?).map (·.type) = some t ∧ W.var? Tryd.prog nameD = some cs ∧ DataW.trod (fun _ => ()) Tryd.prog W 0 sp false fuel t cs.toList = some (Rows.laid_loop_example_s01330_impl_decays, p)) : W.var? Tryd.prog nameD = some decayC :=
  var_of_laid (ns := decayL) gD tD Tryd.underlying35 cellsD h
theorem dc_of_var {W : World} (h : W.var? Tryd.prog nameD = some decayC) : Dc W := heap_of_var gD h
end Go.Proofs.YtfhbhghifeefeaaDoor
