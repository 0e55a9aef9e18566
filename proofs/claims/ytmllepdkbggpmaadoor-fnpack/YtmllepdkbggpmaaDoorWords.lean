/- words.wide, impl.wordsOf. -/
import Derived.Test.YtmllepdkbggpmaaDoorBase
import Derived.Test.YtmllepdkbggpmaaDoorRows
import Derived.WalkSpells
set_option linter.unusedVariables false
set_option linter.unusedSimpArgs false
namespace Go.Proofs.YtmllepdkbggpmaaDoor
open Go.RowKit

theorem wide_any (a0 a1 : Int) (w : World) :
    Calls Tryd.prog 87 #[.agg #[.int .u64 a0, .int .u64 a1]] w fun e w' => e = .returned (.agg #[.int .u64 a1, .int .u64 a0]) ∧ ∃ c1 c2 : Array Value, w' = (w.alloc (.cells c1 104)).alloc (.cells c2 34) := by
  go_enter Tryd.func87, Tryd.ntmps87
  go_wp2
  go_returns
  exact ⟨rfl, _, _, rfl⟩

theorem wordsOf_any (a0 a1 : Int) (w : World) :
    Calls Tryd.prog 79 #[.agg #[.int .u64 a1, .int .u64 a0]] w fun e w' => e = .returned (.agg #[.int .u64 a0, .int .u64 a1]) ∧ ∃ c1 c2 : Array Value, w' = (w.alloc (.cells c1 34)).alloc (.cells c2 104) := by
  go_enter Tryd.func79, Tryd.ntmps79
  go_wp2
  go_returns
  exact ⟨rfl, _, _, rfl⟩

theorem wide_gr (a0 a1 : Int) (w : World) :
    Calls Tryd.prog 87 #[.agg #[.int .u64 a0, .int .u64 a1]] w fun e w' => e = .returned (.agg #[.int .u64 a1, .int .u64 a0]) ∧ Gr w w' := by
  refine (wide_any a0 a1 w).mono ?_
  rintro e w' ⟨rfl, c1, c2, rfl⟩
  exact ⟨rfl, by (repeat' (first | (with_reducible assumption) | (with_reducible exact Gr.refl _) | (with_reducible refine Gr.alloc ?_ _ _) | (with_reducible refine Gr.drew ?_) | (with_reducible refine Gr.setCell ?_ ?_ _) | (with_reducible refine Gr.trans ?_ (by with_reducible assumption)) | go_size))⟩

end Go.Proofs.YtmllepdkbggpmaaDoor
