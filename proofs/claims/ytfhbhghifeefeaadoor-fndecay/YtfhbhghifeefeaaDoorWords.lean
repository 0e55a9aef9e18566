/- words.wide, impl.wordsOf. -/
import Derived.Test.YtfhbhghifeefeaaDoorBase
import Derived.Test.YtfhbhghifeefeaaDoorRows
import Derived.WalkSpells
set_option linter.unusedVariables false
set_option linter.unusedSimpArgs false
namespace Go.Proofs.YtfhbhghifeefeaaDoor
open Go.RowKit

theorem wide_any (a0 a1 : Int) (w : World) :
    Calls Tryd.prog 26 #[.agg #[.int .u64 a0, .int .u64 a1]] w fun e w' => e = .returned (.agg #[.int .u64 a1, .int .u64 a0]) ∧ ∃ c1 c2 : Array Value, w' = (w.alloc (.cells c1 46)).alloc (.cells c2 41) := by
  go_enter Tryd.func26, Tryd.ntmps26
  go_wp2
  go_returns
  exact ⟨rfl, _, _, rfl⟩

theorem wordsOf_any (a0 a1 : Int) (w : World) :
    Calls Tryd.prog 24 #[.agg #[.int .u64 a1, .int .u64 a0]] w fun e w' => e = .returned (.agg #[.int .u64 a0, .int .u64 a1]) ∧ ∃ c1 c2 : Array Value, w' = (w.alloc (.cells c1 41)).alloc (.cells c2 46) := by
  go_enter Tryd.func24, Tryd.ntmps24
  go_wp2
  go_returns
  exact ⟨rfl, _, _, rfl⟩

theorem wide_gr (a0 a1 : Int) (w : World) :
    Calls Tryd.prog 26 #[.agg #[.int .u64 a0, .int .u64 a1]] w fun e w' => e = .returned (.agg #[.int .u64 a1, .int .u64 a0]) ∧ Gr w w' := by
  refine (wide_any a0 a1 w).mono ?_
  rintro e w' ⟨rfl, c1, c2, rfl⟩
  exact ⟨rfl, kr⟩

end Go.Proofs.YtfhbhghifeefeaaDoor
