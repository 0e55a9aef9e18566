/- spec.l2Over, l2Way. -/
import Derived.Test.YtmllepdkbggpmaaDoorMathA
import Derived.Test.YtmllepdkbggpmaaDoorL2A
set_option linter.unusedVariables false
set_option linter.unusedSimpArgs false
namespace Go.Proofs.YtmllepdkbggpmaaDoor
open Go.RowKit

theorem l2Put_any {f p mx one inf sg nan : Int} (h : IsFmt f p mx one inf sg nan) (s v z : Int) (hs : s = 0 ∧ z = v ∨ s = 1 ∧ z = v + sg) (v0 : 0 ≤ v) (v1 : v < sg) (w : World) :
    Calls Tryd.prog 38 #[.int .i64 f, .int .i64 s, .int .u64 v] w fun e w' => e = .returned (.int .u64 z) ∧ w = w' := by
  rcases hs with ⟨rfl, rfl⟩ | ⟨rfl, rfl⟩
  · exact l2Put_zero f _ w
  · exact l2Put_one h v v0 v1 w

theorem l2Way_any (m : Int) (b : Bool) (hb : b = decide (0 ≤ m ∧ m ≤ 4)) (w : World) :
    Calls Tryd.prog 34 #[.int .i64 m] w fun e w' => e = .returned (.bool b) ∧ w = w' := by
  rcases (show (m < 0 ∧ b = false) ∨ (0 ≤ m ∧ m ≤ 4 ∧ b = true) ∨ (4 < m ∧ b = false) by
    cases b
    · have := of_decide_eq_false hb.symm
      simp only [and_true, Bool.false_eq_true, and_false, false_or]; omega
    · have := of_decide_eq_true hb.symm
      simp only [and_true, Bool.true_eq_false, and_false, false_or, or_false]; omega) with ⟨c, rfl⟩ | ⟨c, d, rfl⟩ | ⟨c, rfl⟩
  all_goals
    clear hb
    go_enter Tryd.func34, Tryd.ntmps34
    go_wp2
    go_returns
    first | exact ⟨rfl, rfl⟩ | exact ⟨ret_congr (congrArg Value.bool (decide_eq_false (by omega))), rfl⟩ | exact ⟨ret_congr (congrArg Value.bool (decide_eq_true (by omega))), rfl⟩

set_option maxHeartbeats 4000000 in
theorem l2Over_any {f p mx one inf sg nan : Int} (h : IsFmt f p mx one inf sg nan) (mode sign z : Int) (m0 : 0 ≤ mode) (m1 : mode ≤ 4) (hs : sign = 0 ∧ z = ovMag inf mode sign ∨ sign = 1 ∧ z = ovMag inf mode sign + sg) (w : World) :
    Calls Tryd.prog 54 #[.int .i64 f, .int .i64 mode, .int .i64 sign] w fun e w' => e = .returned (.agg #[.int .u64 z, .int .i64 20]) ∧ Gr w w' := by
  obtain ⟨b1, b2, b3, b4, b5, b6, b7, b8, b9, b10, b11, b12⟩ := h.bounds
  have HI : Hid (∀ w, Calls Tryd.prog 20 #[.int .i64 f] w fun e w' => e = .returned (.int .u64 inf) ∧ w = w') := fun w => l2Inf_any h w
  have HP : Hid (∀ v w, v = inf ∨ v = inf - 1 → v = ovMag inf mode sign → Calls Tryd.prog 38 #[.int .i64 f, .int .i64 sign, .int .u64 v] w fun e w' => e = .returned (.int .u64 z) ∧ w = w') := fun v w hv hz => l2Put_any h sign v z (by rw [hz]; exact hs) (by omega) (by omega) w
  have hcase : (mode = 0 ∧ ovMag inf mode sign = inf) ∨ (mode = 1 ∧ ovMag inf mode sign = inf) ∨ (mode = 2 ∧ ovMag inf mode sign = inf - 1) ∨ (mode = 3 ∧ sign = 0 ∧ ovMag inf mode sign = inf) ∨ (mode = 3 ∧ sign = 1 ∧ ovMag inf mode sign = inf - 1) ∨ (mode = 4 ∧ sign = 0 ∧ ovMag inf mode sign = inf - 1) ∨ (mode = 4 ∧ sign = 1 ∧ ovMag inf mode sign = inf) := by
    have hs' : sign = 0 ∨ sign = 1 := by omega
    unfold ovMag
    rcases (show mode = 0 ∨ mode = 1 ∨ mode = 2 ∨ mode = 3 ∨ mode = 4 by omega) with rfl | rfl | rfl | rfl | rfl <;> rcases hs' with rfl | rfl <;> simp
  clear hs h
  rcases hcase with ⟨rfl, e⟩ | ⟨rfl, e⟩ | ⟨rfl, e⟩ | ⟨rfl, rfl, e⟩ | ⟨rfl, rfl, e⟩ | ⟨rfl, rfl, e⟩ | ⟨rfl, rfl, e⟩
  all_goals
    have HE : Hid _ := e.symm
    clear e
    go_enter Tryd.func54, Tryd.ntmps54
    go_wp2_with (first
      | (go_at_call 20; refine (HI.out _).mono ?_; rintro e w1 ⟨rfl, hw⟩; subst hw)
      | (go_at_call 38; refine (HP.out _ _ (by omega) HE.out).mono ?_; rintro e w2 ⟨rfl, hw⟩; subst hw))
    go_returns
    exact ⟨rfl, by (repeat' (first | (with_reducible assumption) | (with_reducible exact Gr.refl _) | (with_reducible refine Gr.alloc ?_ _ _) | (with_reducible refine Gr.drew ?_) | (with_reducible refine Gr.setCell ?_ ?_ _) | (with_reducible refine Gr.trans ?_ (by with_reducible assumption)) | go_size))⟩
end Go.Proofs.YtmllepdkbggpmaaDoor
