/- spec's order of words, Compare. -/
import Derived.Test.YtfakbjgbbcigpaaDoorL5C
import Derived.Test.YtfakbjgbbcigpaaDoorA7
import Derived.Test.YtfakbjgbbcigpaaDoorL2A
import Derived.Deep.DeepCutAuto
import Derived.Deep.RegionHeld3
set_option linter.unusedVariables false
set_option linter.unusedSimpArgs false
namespace Go.Proofs.YtfakbjgbbcigpaaDoor
open Go.RowKit

/-- The order of words by signs and magnitudes; zeros are equal. -/
def ordV (s v t u : Int) : Int := if v = 0 ∧ u = 0 then 0 else if s ≠ t then t - s else if s = 1 then - cmpI v u else cmpI v u

set_option maxRecDepth 100000 in
set_option maxHeartbeats 1000000 in
theorem l5Order_walk (f a b v u sg r : Int) (HS : Hid (∀ w, Calls Tryd.prog 72 #[.int .i64 f] w fun e w' => e = .returned (.int .u64 sg) ∧ w = w')) (s0 : ¬ sg = 0) (hv : a.tmod sg = v) (hu : b.tmod sg = u)
    (hr : Hid (r = if v = 0 ∧ u = 0 then 0 else if decide (sg ≤ a) ≠ decide (sg ≤ b) then (if sg ≤ a then -1 else 1) else if v = u then 0 else if decide (v < u) = decide (a < sg) then -1 else 1)) (w : World) :
    Calls Tryd.prog 33 #[.int .i64 f, .int .u64 a, .int .u64 b] w fun e w' => e = .returned (.int .i64 r) ∧ w = w' := by
  go_enter Tryd.func33, Tryd.ntmps33
  go_wp2_with (go_at_call 72; refine (HS.out _).mono ?_; rintro x wk ⟨rfl, hw⟩; subst hw)
  all_goals go_returns
  all_goals exact ⟨ret_congr (congrArg (Value.int .i64) (by rw [hr.out]; simp_all)), rfl⟩
end Go.Proofs.YtfakbjgbbcigpaaDoor
