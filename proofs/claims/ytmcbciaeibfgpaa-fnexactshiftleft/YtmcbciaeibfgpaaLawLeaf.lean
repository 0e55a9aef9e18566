/- laws.toWide, laws.eqWide. -/
import Derived.Test.YtmcbciaeibfgpaaBase
import Derived.Test.YtmcbciaeibfgpaaRows
import Derived.WalkSpells
set_option linter.unusedVariables false
set_option linter.unusedSimpArgs false
namespace Go.Proofs.Ytmcbciaeibfgpaa
open Go.RowKit

theorem toWide_any (a0 a1 : Int) (w : World) :
    Calls Try.prog 16 #[.agg #[.int .u64 a0, .int .u64 a1]] w fun e w' => e = .returned (.agg #[.int .u64 a0, .int .u64 a1]) ∧ ∃ c1 c2 c3 : Array Value, w' = ((w.alloc (.cells c1 28)).alloc (.cells c2 24)).alloc (.cells c3 24) := by
  go_enter Try.func16, Try.ntmps16
  go_wp2
  go_returns
  exact ⟨rfl, _, _, _, rfl⟩

theorem eqWide_same (a0 a1 : Int) (w : World) :
    Calls Try.prog 14 #[.agg #[.int .u64 a1, .int .u64 a0], .agg #[.int .u64 a1, .int .u64 a0]] w fun e w' => e = .returned (.bool true) ∧ Gr w w' := by
  go_enter Try.func14, Try.ntmps14
  go_wp2
  go_returns
  exact ⟨rfl, ⟨by go_grown, by go_grown⟩⟩
end Go.Proofs.Ytmcbciaeibfgpaa
