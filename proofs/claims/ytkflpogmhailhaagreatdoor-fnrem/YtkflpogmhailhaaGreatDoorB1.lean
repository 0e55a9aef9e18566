/- impl's ways of rounding. -/
import Derived.Test.YtkflpogmhailhaaGreatDoorF2b
import Derived.Test.YtkflpogmhailhaaGreatDoorA1
import Derived.Laws.EntriesVeiled
import Derived.Test.YtkflpogmhailhaaGreatDoorA3
import Derived.Laws.BitsAllLaws
set_option linter.unusedVariables false
set_option linter.unusedSimpArgs false
namespace Go.Proofs.YtkflpogmhailhaaGreatDoor
open Go.RowKit

/-- The rule of a way. -/
def ru (mode : Int) (neg odd half rest : Bool) : Bool := if mode = 0 then half && (odd || rest) else if mode = 1 then half else if mode = 2 then false else if mode = 3 then !neg && (half || rest) else neg && (half || rest)

def IsRule (mode : Int) (k : Nat) : Prop := mode = 0 ∧ k = 95 ∨ mode = 1 ∧ k = 137 ∨ mode = 2 ∧ k = 138 ∨ mode = 3 ∧ k = 139 ∨ mode = 4 ∧ k = 140

theorem nearestEven_any (a b c d : Bool) (w : World) : Calls Tryz.prog 95 #[.bool a, .bool b, .bool c, .bool d] w fun e w' => e = .returned (.bool (ru 0 a b c d)) ∧ w = w' := by
  cases a <;> cases b <;> cases c <;> cases d
  all_goals
    go_enter Tryz.func95, Tryz.ntmps95
    go_wp2
    go_returns
    exact ⟨rfl, rfl⟩
theorem nearestAway_any (a b c d : Bool) (w : World) : Calls Tryz.prog 137 #[.bool a, .bool b, .bool c, .bool d] w fun e w' => e = .returned (.bool (ru 1 a b c d)) ∧ w = w' := by
  cases a <;> cases b <;> cases c <;> cases d
  all_goals
    go_enter Tryz.func137, Tryz.ntmps137
    go_wp2
    go_returns
    exact ⟨rfl, rfl⟩
theorem towardZero_any (a b c d : Bool) (w : World) : Calls Tryz.prog 138 #[.bool a, .bool b, .bool c, .bool d] w fun e w' => e = .returned (.bool (ru 2 a b c d)) ∧ w = w' := by
  cases a <;> cases b <;> cases c <;> cases d
  all_goals
    go_enter Tryz.func138, Tryz.ntmps138
    go_wp2
    go_returns
    exact ⟨rfl, rfl⟩
theorem upward_any (a b c d : Bool) (w : World) : Calls Tryz.prog 139 #[.bool a, .bool b, .bool c, .bool d] w fun e w' => e = .returned (.bool (ru 3 a b c d)) ∧ w = w' := by
  cases a <;> cases b <;> cases c <;> cases d
  all_goals
    go_enter Tryz.func139, Tryz.ntmps139
    go_wp2
    go_returns
    exact ⟨rfl, rfl⟩
theorem downward_any (a b c d : Bool) (w : World) : Calls Tryz.prog 140 #[.bool a, .bool b, .bool c, .bool d] w fun e w' => e = .returned (.bool (ru 4 a b c d)) ∧ w = w' := by
  cases a <;> cases b <;> cases c <;> cases d
  all_goals
    go_enter Tryz.func140, Tryz.ntmps140
    go_wp2
    go_returns
    exact ⟨rfl, rfl⟩

set_option maxRecDepth 100000 in
set_option maxHeartbeats 2000000 in
theorem ruleOf_yes (mode : Int) (k : Nat) (h : IsRule mode k) (w : World) :
    Calls Tryz.prog 113 #[.int .i64 mode] w fun e w' => e = .returned (.tuple #[.func (.func k) #[] #[], .bool true]) ∧ Gr w w' := by
  rcases h with ⟨rfl, rfl⟩ | ⟨rfl, rfl⟩ | ⟨rfl, rfl⟩ | ⟨rfl, rfl⟩ | ⟨rfl, rfl⟩
  all_goals
    go_enter Tryz.func113, Tryz.ntmps113
    go_wp2
    go_returns
    exact ⟨rfl, kr⟩
set_option maxRecDepth 100000 in
set_option maxHeartbeats 2000000 in
theorem ruleOf_no (mode : Int) (h : mode < 0 ∨ 4 < mode) (w : World) :
    Calls Tryz.prog 113 #[.int .i64 mode] w fun e w' => e = .returned (.tuple #[Value.nilFunc, .bool false]) ∧ Gr w w' := by
  rcases h with c | c
  all_goals
    go_enter Tryz.func113, Tryz.ntmps113
    go_wp2
    go_returns
    exact ⟨rfl, kr⟩
end Go.Proofs.YtkflpogmhailhaaGreatDoor

/- impl's shifts at a number. -/
set_option linter.unusedVariables false
set_option linter.unusedSimpArgs false
namespace Go.Proofs.YtkflpogmhailhaaGreatDoor
open Go.RowKit

theorem cast_div (M k : Nat) : (M : Int) / 2 ^ k = ((M / 2 ^ k : Nat) : Int) := by rw [Int.natCast_ediv, Int.natCast_pow]; rfl
theorem cast_mod (M k : Nat) : (M : Int) % 2 ^ k = ((M % 2 ^ k : Nat) : Int) := by rw [Int.natCast_emod, Int.natCast_pow]; rfl
theorem cast_mul (M k : Nat) : (M : Int) * 2 ^ k = ((M * 2 ^ k : Nat) : Int) := by rw [Int.natCast_mul, Int.natCast_pow]; rfl

theorem shrM (M : Nat) (hM : M < 340282366920938463463374607431768211456) (n : Nat) (w : World) :
    Calls Tryz.prog 130 #[.agg #[.int .u64 ((M / 18446744073709551616 : Nat) : Int), .int .u64 ((M % 18446744073709551616 : Nat) : Int)], .int .i64 n] w fun e w' => e = .returned (.tuple #[.agg #[.int .u64 ((M / 2 ^ n / 18446744073709551616 : Nat) : Int), .int .u64 ((M / 2 ^ n % 18446744073709551616 : Nat) : Int)], .bool (decide (M % 2 ^ n ≠ 0))]) ∧ Gr w w' := by
  have e0 : ((M / 18446744073709551616 : Nat) : Int) * 18446744073709551616 + ((M % 18446744073709551616 : Nat) : Int) = (M : Int) := by omega
  obtain ⟨k, hk, hdiv, hmod⟩ : ∃ k : Nat, (bnd (n : Int)).toNat = k ∧ M / 2 ^ k = M / 2 ^ n ∧ M % 2 ^ k = M % 2 ^ n := by
    unfold bnd
    rw [if_neg (by omega)]
    by_cases h : 128 < (n : Int)
    · rw [if_pos h]
      have h1 : M < 2 ^ 128 := by simpa using hM
      have h2 := pow2_mono (show 128 ≤ n by omega)
      exact ⟨128, rfl, by rw [Nat.div_eq_of_lt h1, Nat.div_eq_of_lt (by omega)], by rw [Nat.mod_eq_of_lt h1, Nat.mod_eq_of_lt (by omega)]⟩
    · rw [if_neg h]
      exact ⟨n, by simp, rfl, rfl⟩
  refine (shiftRight_any _ _ (n : Int) (by omega) (by omega) (by omega) (by omega) w).mono ?_
  rintro e w' ⟨rfl, hg⟩
  refine ⟨ret_wb ?_ ?_ ?_, hg⟩
  · unfold shrHi; rw [hk, e0, cast_div, hdiv]; omega
  · unfold shrLo; rw [hk, e0, cast_div, hdiv]; omega
  · unfold shrLost; rw [hk, e0, cast_mod, hmod]
    generalize M % 2 ^ n = R
    by_cases h : R = 0
    · simp [h]
    · simp [h]

theorem shlM (M : Nat) (hM : M < 340282366920938463463374607431768211456) (n : Nat) (hn : n ≤ 128) (h : M * 2 ^ n < 18446744073709551616) (w : World) :
    Calls Tryz.prog 149 #[.agg #[.int .u64 ((M / 18446744073709551616 : Nat) : Int), .int .u64 ((M % 18446744073709551616 : Nat) : Int)], .int .i64 n] w fun e w' => e = .returned (.agg #[.int .u64 0, .int .u64 ((M * 2 ^ n : Nat) : Int)]) ∧ Gr w w' := by
  have e0 : ((M / 18446744073709551616 : Nat) : Int) * 18446744073709551616 + ((M % 18446744073709551616 : Nat) : Int) = (M : Int) := by omega
  have hk : (bnd (n : Int)).toNat = n := by unfold bnd; rw [if_neg (by omega), if_neg (by omega)]; simp
  refine (shiftLeft_any _ _ (n : Int) (by omega) (by omega) (by omega) (by omega) w).mono ?_
  rintro e w' ⟨rfl, hg⟩
  refine ⟨ret_w ?_ ?_, hg⟩
  · unfold shlHi; rw [hk, e0, cast_mul]; omega
  · unfold shlLo; rw [hk, e0, cast_mul]; omega

end Go.Proofs.YtkflpogmhailhaaGreatDoor
