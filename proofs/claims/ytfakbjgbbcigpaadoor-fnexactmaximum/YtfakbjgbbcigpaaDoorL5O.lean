/- impl's order of operands. -/
import Derived.Test.YtfakbjgbbcigpaaDoorL5C
import Derived.Test.YtfakbjgbbcigpaaDoorA7
import Derived.LoopN
import Derived.Deep.DeepCutAuto
import Derived.Deep.RegionHeld3
set_option linter.unusedVariables false
set_option linter.unusedSimpArgs false
namespace Go.Proofs.YtfakbjgbbcigpaaDoor
open Go.RowKit

theorem isNaNi (a : Int) (w : World) : Calls Tryd.prog 104 #[.int .i64 a] w fun e w' => e = .returned (.bool false) ∧ w = w' := by
  go_enter Tryd.func104, Tryd.ntmps104
  go_wp2
  go_returns
  exact ⟨rfl, rfl⟩
theorem isNaNu (a : Int) (w : World) : Calls Tryd.prog 105 #[.int .u64 a] w fun e w' => e = .returned (.bool false) ∧ w = w' := by
  go_enter Tryd.func105, Tryd.ntmps105
  go_wp2
  go_returns
  exact ⟨rfl, rfl⟩

theorem cmpInt_any (a b : Int) (w : World) : Calls Tryd.prog 79 #[.int .i64 a, .int .i64 b] w fun e w' => e = .returned (.int .i64 (cmpI a b)) ∧ w = w' := by
  rcases Int.lt_trichotomy a b with c | c | c
  · rw [cmpI_lt c]
    go_enter Tryd.func79, Tryd.ntmps79
    go_wp2_with (go_at_call 104; refine (isNaNi _ _).mono ?_; rintro e wk ⟨rfl, hw⟩; subst hw)
    go_returns
    exact ⟨rfl, rfl⟩
  · subst c
    rw [cmpI_self]
    go_enter Tryd.func79, Tryd.ntmps79
    go_wp2_with (go_at_call 104; refine (isNaNi _ _).mono ?_; rintro e wk ⟨rfl, hw⟩; subst hw)
    go_returns
    exact ⟨rfl, rfl⟩
  · rw [cmpI_gt c]
    have c' : decide (a < b) = false := by simp; omega
    go_enter Tryd.func79, Tryd.ntmps79
    go_wp2_with (go_at_call 104; refine (isNaNi _ _).mono ?_; rintro e wk ⟨rfl, hw⟩; subst hw)
    go_returns
    exact ⟨rfl, rfl⟩
theorem cmpWord_any (a b : Int) (w : World) : Calls Tryd.prog 80 #[.int .u64 a, .int .u64 b] w fun e w' => e = .returned (.int .i64 (cmpI a b)) ∧ w = w' := by
  rcases Int.lt_trichotomy a b with c | c | c
  · rw [cmpI_lt c]
    go_enter Tryd.func80, Tryd.ntmps80
    go_wp2_with (go_at_call 105; refine (isNaNu _ _).mono ?_; rintro e wk ⟨rfl, hw⟩; subst hw)
    go_returns
    exact ⟨rfl, rfl⟩
  · subst c
    rw [cmpI_self]
    go_enter Tryd.func80, Tryd.ntmps80
    go_wp2_with (go_at_call 105; refine (isNaNu _ _).mono ?_; rintro e wk ⟨rfl, hw⟩; subst hw)
    go_returns
    exact ⟨rfl, rfl⟩
  · rw [cmpI_gt c]
    have c' : decide (a < b) = false := by simp; omega
    go_enter Tryd.func80, Tryd.ntmps80
    go_wp2_with (go_at_call 105; refine (isNaNu _ _).mono ?_; rintro e wk ⟨rfl, hw⟩; subst hw)
    go_returns
    exact ⟨rfl, rfl⟩

set_option maxRecDepth 100000 in
set_option maxHeartbeats 1000000 in
theorem cmpOr_any (x y z : Int) (b cap : Nat) (w : World) (h0 : w.cell? ⟨b, 0, none⟩ = some (.int .i64 x)) (h1 : w.cell? ⟨b, 1, none⟩ = some (.int .i64 y)) (h2 : w.cell? ⟨b, 2, none⟩ = some (.int .i64 z)) (hc : 3 ≤ cap) :
    Calls Tryd.prog 78 #[.slice (some ⟨b, 0, none⟩) 3 cap] w fun e w' => e = .returned (.int .i64 (or3 x y z)) ∧ w = w' := by
  unfold or3
  by_cases c1 : x = 0
  · subst c1
    rw [if_neg (by decide)]
    by_cases c2 : y = 0
    · subst c2
      rw [if_neg (by decide)]
      by_cases c3 : z = 0
      · subst c3
        go_enter Tryd.func78, Tryd.ntmps78
        go_wp2
        refine wp_loop_rounds 4 ?_
        iterate 4 (rw [rounds_succ]; go_wp2)
        go_returns
        exact ⟨rfl, rfl⟩
      · have e3 : (z == 0) = false := by simp [c3]
        go_enter Tryd.func78, Tryd.ntmps78
        go_wp2
        refine wp_loop_rounds 3 ?_
        iterate 3 (rw [rounds_succ]; go_wp2)
        go_returns
        exact ⟨rfl, rfl⟩
    · rw [if_pos c2]
      have e2 : (y == 0) = false := by simp [c2]
      go_enter Tryd.func78, Tryd.ntmps78
      go_wp2
      refine wp_loop_rounds 2 ?_
      iterate 2 (rw [rounds_succ]; go_wp2)
      go_returns
      exact ⟨rfl, rfl⟩
  · rw [if_pos c1]
    have e1 : (x == 0) = false := by simp [c1]
    go_enter Tryd.func78, Tryd.ntmps78
    go_wp2
    refine wp_loop_rounds 1 ?_
    rw [rounds_succ]; go_wp2
    go_returns
    exact ⟨rfl, rfl⟩
end Go.Proofs.YtfakbjgbbcigpaaDoor
