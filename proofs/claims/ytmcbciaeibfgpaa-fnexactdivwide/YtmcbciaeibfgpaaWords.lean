/- words.wide, impl.wordsOf. -/
import Derived.Test.YtmcbciaeibfgpaaBase
import Derived.Test.YtmcbciaeibfgpaaRows
import Derived.WalkSpells
set_option linter.unusedVariables false
set_option linter.unusedSimpArgs false
namespace Go.Proofs.Ytmcbciaeibfgpaa
open Go.RowKit

theorem wide_any (a0 a1 : Int) (w : World) :
    Calls Try.prog 36 #[.agg #[.int .u64 a0, .int .u64 a1]] w fun e w' => e = .returned (.agg #[.int .u64 a1, .int .u64 a0]) ∧ ∃ c1 c2 : Array Value, w' = (w.alloc (.cells c1 52)).alloc (.cells c2 24) := by
  go_enter Try.func36, Try.ntmps36
  go_wp2
  go_returns
  exact ⟨rfl, _, _, rfl⟩

theorem wordsOf_any (a0 a1 : Int) (w : World) :
    Calls Try.prog 37 #[.agg #[.int .u64 a1, .int .u64 a0]] w fun e w' => e = .returned (.agg #[.int .u64 a0, .int .u64 a1]) ∧ ∃ c1 c2 : Array Value, w' = (w.alloc (.cells c1 24)).alloc (.cells c2 52) := by
  go_enter Try.func37, Try.ntmps37
  go_wp2
  go_returns
  exact ⟨rfl, _, _, rfl⟩

theorem wide_gr (a0 a1 : Int) (w : World) :
    Calls Try.prog 36 #[.agg #[.int .u64 a0, .int .u64 a1]] w fun e w' => e = .returned (.agg #[.int .u64 a1, .int .u64 a0]) ∧ Gr w w' := by
  refine (wide_any a0 a1 w).mono ?_
  rintro e w' ⟨rfl, c1, c2, rfl⟩
  exact ⟨rfl, by (repeat' (first | (with_reducible assumption) | (with_reducible exact Gr.refl _) | (with_reducible refine Gr.alloc ?_ _ _) | (with_reducible refine Gr.drew ?_) | (with_reducible refine Gr.setCell ?_ ?_ _) | (with_reducible refine Gr.trans ?_ (by with_reducible assumption)) | go_size))⟩

end Go.Proofs.Ytmcbciaeibfgpaa
