/- impl's ways of rounding. -/
import Derived.Test.YtmllepdkbggpmaaDoorF2b
import Derived.Test.YtmllepdkbggpmaaDoorMathA
import Derived.Laws.EntriesVeiled
set_option linter.unusedVariables false
set_option linter.unusedSimpArgs false
namespace Go.Proofs.YtmllepdkbggpmaaDoor
open Go.RowKit

/-- The rule of a way. -/
def ru (mode : Int) (neg odd half rest : Bool) : Bool := if mode = 0 then half && (odd || rest) else if mode = 1 then half else if mode = 2 then false else if mode = 3 then !neg && (half || rest) else neg && (half || rest)

def IsRule (mode : Int) (k : Nat) : Prop := mode = 0 ∧ k = 59 ∨ mode = 1 ∧ k = 60 ∨ mode = 2 ∧ k = 61 ∨ mode = 3 ∧ k = 62 ∨ mode = 4 ∧ k = 63

theorem nearestEven_any (a b c d : Bool) (w : World) : Calls Tryd.prog 59 #[.bool a, .bool b, .bool c, .bool d] w fun e w' => e = .returned (.bool (ru 0 a b c d)) ∧ w = w' := by
  cases a <;> cases b <;> cases c <;> cases d
  all_goals
    go_enter Tryd.func59, Tryd.ntmps59
    go_wp2
    go_returns
    exact ⟨rfl, rfl⟩
theorem nearestAway_any (a b c d : Bool) (w : World) : Calls Tryd.prog 60 #[.bool a, .bool b, .bool c, .bool d] w fun e w' => e = .returned (.bool (ru 1 a b c d)) ∧ w = w' := by
  cases a <;> cases b <;> cases c <;> cases d
  all_goals
    go_enter Tryd.func60, Tryd.ntmps60
    go_wp2
    go_returns
    exact ⟨rfl, rfl⟩
theorem towardZero_any (a b c d : Bool) (w : World) : Calls Tryd.prog 61 #[.bool a, .bool b, .bool c, .bool d] w fun e w' => e = .returned (.bool (ru 2 a b c d)) ∧ w = w' := by
  cases a <;> cases b <;> cases c <;> cases d
  all_goals
    go_enter Tryd.func61, Tryd.ntmps61
    go_wp2
    go_returns
    exact ⟨rfl, rfl⟩
theorem upward_any (a b c d : Bool) (w : World) : Calls Tryd.prog 62 #[.bool a, .bool b, .bool c, .bool d] w fun e w' => e = .returned (.bool (ru 3 a b c d)) ∧ w = w' := by
  cases a <;> cases b <;> cases c <;> cases d
  all_goals
    go_enter Tryd.func62, Tryd.ntmps62
    go_wp2
    go_returns
    exact ⟨rfl, rfl⟩
theorem downward_any (a b c d : Bool) (w : World) : Calls Tryd.prog 63 #[.bool a, .bool b, .bool c, .bool d] w fun e w' => e = .returned (.bool (ru 4 a b c d)) ∧ w = w' := by
  cases a <;> cases b <;> cases c <;> cases d
  all_goals
    go_enter Tryd.func63, Tryd.ntmps63
    go_wp2
    go_returns
    exact ⟨rfl, rfl⟩

set_option maxRecDepth 100000 in
set_option maxHeartbeats 2000000 in
theorem ruleOf_yes (mode : Int) (k : Nat) (h : IsRule mode k) (w : World) :
    Calls Tryd.prog 41 #[.int .i64 mode] w fun e w' => e = .returned (.tuple #[.func (.func k) #[] #[], .bool true]) ∧ Gr w w' := by
  rcases h with ⟨rfl, rfl⟩ | ⟨rfl, rfl⟩ | ⟨rfl, rfl⟩ | ⟨rfl, rfl⟩ | ⟨rfl, rfl⟩
  all_goals
    go_enter Tryd.func41, Tryd.ntmps41
    go_wp2
    go_returns
    exact ⟨rfl, by (repeat' (first | (with_reducible assumption) | (with_reducible exact Gr.refl _) | (with_reducible refine Gr.alloc ?_ _ _) | (with_reducible refine Gr.drew ?_) | (with_reducible refine Gr.setCell ?_ ?_ _) | (with_reducible refine Gr.trans ?_ (by with_reducible assumption)) | go_size))⟩
set_option maxRecDepth 100000 in
set_option maxHeartbeats 2000000 in
theorem ruleOf_no (mode : Int) (h : mode < 0 ∨ 4 < mode) (w : World) :
    Calls Tryd.prog 41 #[.int .i64 mode] w fun e w' => e = .returned (.tuple #[Value.nilFunc, .bool false]) ∧ Gr w w' := by
  rcases h with c | c
  all_goals
    go_enter Tryd.func41, Tryd.ntmps41
    go_wp2
    go_returns
    exact ⟨rfl, by (repeat' (first | (with_reducible assumption) | (with_reducible exact Gr.refl _) | (with_reducible refine Gr.alloc ?_ _ _) | (with_reducible refine Gr.drew ?_) | (with_reducible refine Gr.setCell ?_ ?_ _) | (with_reducible refine Gr.trans ?_ (by with_reducible assumption)) | go_size))⟩
end Go.Proofs.YtmllepdkbggpmaaDoor
