/- FnExactNextUp: the walk. -/
import Derived.Test.YtoaggnpcmieeaaaDoorO2
set_option linter.unusedVariables false
set_option linter.unusedSimpArgs false
namespace Go.Proofs.YtoaggnpcmieeaaaDoor
open Go.RowKit

set_option maxRecDepth 100000 in
set_option maxHeartbeats 1000000 in
theorem lawNextB (f W : Int) (f0 : -9223372036854775808 ≤ f) (f1 : f < 9223372036854775808) (h0 : 0 ≤ W) (h1 : W < 18446744073709551616) {w : World} (hw : Fm w) :
    Calls Tryd.prog 4 #[.int .i64 f, .int .u64 W] w fun e w' => e = .returned (.bool true) ∧ Gb w w' := by
  have H : Hid (∃ z : Int, (∀ w, Calls Tryd.prog 10 #[.int .i64 f, .int .u64 W] w fun e w' => e = .returned (.int .u64 z) ∧ Gr w w') ∧
      (∀ w, Fm w → Calls Tryd.prog 11 #[.int .i64 f, .int .u64 W] w fun e w' => e = .returned (.int .u64 z) ∧ Gr w w')) := by
    rcases fit_or f W h0 h1 with ⟨p, mx, one, inf, sg, nan, hf, hW⟩ | hno
    · obtain ⟨z, hu⟩ := next_is hf W h0 hW
      refine ⟨z, fun w => (specNext_fit hf W h0 hW w).mono ?_, fun w hw => (implNext_fit hf W h0 hW hw).mono ?_⟩
      all_goals
        rintro e w' ⟨z', hu', rfl, hg⟩
        obtain rfl := NextIs.one hf hu hu'
        exact ⟨rfl, hg⟩
    · rcases hno with hno | ⟨rfl, hno⟩
      · exact ⟨_, fun w => specNext_none f W h0 hno w, fun w hw => implNext_none f W hno hw⟩
      · exact ⟨_, fun w => specNext_wide W h0 hno w, fun w hw => implNext_wide W hno h1 hw⟩
  obtain ⟨z, HA, HB⟩ := H.out
  have HS : Hid (∀ w, Calls Tryd.prog 10 #[.int .i64 f, .int .u64 W] w fun e w' => e = .returned (.int .u64 z) ∧ Gr w w') := HA
  have HI : Hid (∀ w', Gr w w' → Calls Tryd.prog 11 #[.int .i64 f, .int .u64 W] w' fun e w'' => e = .returned (.int .u64 z) ∧ Gr w' w'') := fun w' hg => HB w' (hw.gr hg)
  clear H HA HB hw
  go_enter Tryd.func4, Tryd.ntmps4
  go_wp2_with (first
    | (go_at_call 10; refine (HS.out _).mono ?_; rintro e w2 ⟨rfl, hg_w2⟩)
    | (go_at_call 11; refine (HI.out _ kr).mono ?_; rintro e w3 ⟨rfl, hg_w3⟩))
  go_returns
  exact ⟨rfl, Gr.gb kr⟩
end Go.Proofs.YtoaggnpcmieeaaaDoor
