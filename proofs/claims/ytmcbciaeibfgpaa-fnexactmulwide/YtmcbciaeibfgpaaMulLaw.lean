/- laws.FnExactMulWide. -/
import Derived.Test.YtmcbciaeibfgpaaMulI
import Derived.Test.YtmcbciaeibfgpaaLawLeaf
set_option linter.unusedVariables false
set_option linter.unusedSimpArgs false
namespace Go.Proofs.Ytmcbciaeibfgpaa
open Go.RowKit

set_option maxHeartbeats 1000000 in
theorem lawMul (x y : Int) (hx0 : 0 ≤ x) (hx : x < 18446744073709551616) (hy0 : 0 ≤ y) (hy : y < 18446744073709551616) (w : World) :
    Calls Try.prog 3 #[.int .u64 x, .int .u64 y] w fun e w' => e = .returned (.bool true) ∧ Gr w w' := by
  go_enter Try.func3, Try.ntmps3
  go_wp2_with (first
    | (go_at_call 12; refine (specMul_int x y hx0 hx hy0 hy _).mono ?_; rintro e w1 ⟨rfl, c, rfl⟩)
    | (go_at_call 13; refine (mulWide_any x y hx0 hx hy0 hy _).mono ?_; rintro e w2 ⟨rfl, hg⟩; have hc := hg.cells; have hz := hg.size; simp only [World.size_alloc] at hz; have hz1 : w.heap.size + 1 < w2.heap.size := (by omega); clear hz)
    | (go_at_call 14; refine (eqWide_same _ _ _).mono ?_; rintro e w3 ⟨rfl, hg3⟩))
  go_returns
  exact ⟨rfl, ((((Gr.refl w).alloc _ _).alloc _ _).trans hg).alloc _ _ |>.trans hg3⟩
end Go.Proofs.Ytmcbciaeibfgpaa
