/- spec.l2Fits: does a word fit a format. -/
import Derived.Test.YtmllepdkbggpmaaDoorL2Num
set_option linter.unusedVariables false
set_option linter.unusedSimpArgs false
namespace Go.Proofs.YtmllepdkbggpmaaDoor
open Go.RowKit

theorem l2Fits_yes {f p mx one inf sg nan : Int} (h : IsFmt f p mx one inf sg nan) (v : Int) (v0 : 0 ≤ v) (v1 : v < 2 * sg) (w : World) :
    Calls Tryd.prog 18 #[.int .i64 f, .int .u64 v] w fun e w' => e = .returned (.bool true) ∧ w = w' := by
  rcases h with ⟨rfl, rfl, rfl, rfl, rfl, rfl, rfl⟩ | ⟨rfl, rfl, rfl, rfl, rfl, rfl, rfl⟩
  all_goals
    go_enter Tryd.func18, Tryd.ntmps18
    go_wp2_with (go_at_call 28; refine (l2Format_any _ true (by decide) _).mono ?_; rintro e w' ⟨rfl, hw⟩; subst hw)
    go_ret
    first
      | exact ⟨rfl, rfl⟩
      | exact ⟨congrArg (fun b => Exit.returned (Value.bool b)) (decide_eq_true (by omega)), rfl⟩
      | (refine ⟨?_, rfl⟩; simp; omega)
theorem l2Fits_no (f v : Int) (v0 : 0 ≤ v) (h : ¬ (f = 0 ∨ f = 1) ∨ (f = 0 ∧ 4294967296 ≤ v)) (w : World) :
    Calls Tryd.prog 18 #[.int .i64 f, .int .u64 v] w fun e w' => e = .returned (.bool false) ∧ w = w' := by
  rcases h with h | ⟨rfl, hv⟩
  · have hf : false = decide (f = 0 ∨ f = 1) := by simp; omega
    have HF : Hid _ := hf
    clear hf h
    go_enter Tryd.func18, Tryd.ntmps18
    go_wp2_with (go_at_call 28; refine (l2Format_any _ false HF.out _).mono ?_; rintro e w' ⟨rfl, hw⟩; subst hw)
    go_ret
    exact ⟨rfl, rfl⟩
  · go_enter Tryd.func18, Tryd.ntmps18
    go_wp2_with (go_at_call 28; refine (l2Format_any _ true (by decide) _).mono ?_; rintro e w' ⟨rfl, hw⟩; subst hw)
    go_ret
    first
      | exact ⟨rfl, rfl⟩
      | (refine ⟨?_, rfl⟩; simp; omega)

end Go.Proofs.YtmllepdkbggpmaaDoor
