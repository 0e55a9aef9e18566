/- laws.toWide, laws.eqWide. -/
import Derived.Test.YtlfakhjobnaidabBase
import Derived.Test.YtlfakhjobnaidabRows
import Derived.WalkSpells
set_option linter.unusedVariables false
set_option linter.unusedSimpArgs false
namespace Go.Proofs.Ytlfakhjobnaidab
open Go.RowKit

theorem toWide_any (a0 a1 : Int) (w : World) :
    Calls Try.prog 7 #[.agg #[.int .u64 a0, .int .u64 a1]] w fun e w' => e = .returned (.agg #[.int .u64 a0, .int .u64 a1]) ∧ ∃ c1 c2 c3 : Array Value, w' = ((w.alloc (.cells c1 24)).alloc (.cells c2 25)).alloc (.cells c3 25) := by
  go_enter Try.func7, Try.ntmps7
  go_wp2
  go_returns
  exact ⟨rfl, _, _, _, rfl⟩

theorem eqWide_same (a0 a1 : Int) (w : World) :
    Calls Try.prog 9 #[.agg #[.int .u64 a1, .int .u64 a0], .agg #[.int .u64 a1, .int .u64 a0]] w fun e w' => e = .returned (.bool true) ∧ Gr w w' := by
  go_enter Try.func9, Try.ntmps9
  go_wp2
  go_returns
  exact ⟨rfl, ⟨by go_grown, by go_grown⟩⟩
end Go.Proofs.Ytlfakhjobnaidab
