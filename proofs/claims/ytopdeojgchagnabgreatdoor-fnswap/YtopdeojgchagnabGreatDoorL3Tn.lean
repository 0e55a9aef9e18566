/- spec.l3Turned. -/
import Derived.Test.YtopdeojgchagnabGreatDoorL2A
set_option linter.unusedVariables false
set_option linter.unusedSimpArgs false
namespace Go.Proofs.YtopdeojgchagnabGreatDoor
open Go.RowKit

set_option maxRecDepth 100000 in
set_option maxHeartbeats 2000000 in
theorem l3Turned_any {f p mx one inf sg nan : Int} (h : IsFmt f p mx one inf sg nan) (v z : Int) (v0 : 0 ≤ v) (v1 : v < 2 * sg) (hz : v < sg ∧ z = v + sg ∨ sg ≤ v ∧ z = v - sg) (w : World) :
    Calls Tryz.prog 61 #[.int .i64 f, .int .u64 v] w fun e w' => e = .returned (.int .u64 z) ∧ w = w' := by
  have hb := h.bounds
  have HS : Hid (∀ w, Calls Tryz.prog 62 #[.int .i64 f] w fun e w' => e = .returned (.int .u64 sg) ∧ w = w') := fun w => l2Sign_any h w
  have hc : (v < sg ∧ IntKind.u64.wrap (v + sg) = z) ∨ (sg ≤ v ∧ IntKind.u64.wrap (v - sg) = z) := by
    rcases hz with ⟨a, rfl⟩ | ⟨a, rfl⟩
    · exact .inl ⟨a, by rw [IntKind.wrap_u64]; omega⟩
    · exact .inr ⟨a, by rw [IntKind.wrap_u64]; omega⟩
  clear h hz hb
  rcases hc with ⟨c, u1⟩ | ⟨c, u1⟩
  all_goals
    go_enter Tryz.func61, Tryz.ntmps61
    go_wp2_with (go_at_call 62; refine (HS.out _).mono ?_; rintro x wk ⟨rfl, hw⟩; subst hw)
    go_returns
    exact ⟨ret_congr (by first | rfl | (simp; omega) | (rw [u1])), rfl⟩

end Go.Proofs.YtopdeojgchagnabGreatDoor
