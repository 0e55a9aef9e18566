/- impl's shifts at a number. -/
import Derived.Test.YtmllepdkbggpmaaDoorRPRule
import Derived.Test.YtmllepdkbggpmaaDoorShiftRI
import Derived.Laws.BitsAllLaws
set_option linter.unusedVariables false
set_option linter.unusedSimpArgs false
namespace Go.Proofs.YtmllepdkbggpmaaDoor
open Go.RowKit

theorem cast_div (M k : Nat) : (M : Int) / 2 ^ k = ((M / 2 ^ k : Nat) : Int) := by rw [Int.natCast_ediv, Int.natCast_pow]; rfl
theorem cast_mod (M k : Nat) : (M : Int) % 2 ^ k = ((M % 2 ^ k : Nat) : Int) := by rw [Int.natCast_emod, Int.natCast_pow]; rfl
theorem cast_mul (M k : Nat) : (M : Int) * 2 ^ k = ((M * 2 ^ k : Nat) : Int) := by rw [Int.natCast_mul, Int.natCast_pow]; rfl

theorem shrM (M : Nat) (hM : M < 340282366920938463463374607431768211456) (n : Nat) (w : World) :
    Calls Tryd.prog 82 #[.agg #[.int .u64 ((M / 18446744073709551616 : Nat) : Int), .int .u64 ((M % 18446744073709551616 : Nat) : Int)], .int .i64 n] w fun e w' => e = .returned (.tuple #[.agg #[.int .u64 ((M / 2 ^ n / 18446744073709551616 : Nat) : Int), .int .u64 ((M / 2 ^ n % 18446744073709551616 : Nat) : Int)], .bool (decide (M % 2 ^ n ≠ 0))]) ∧ Gr w w' := by
  have e0 : ((M / 18446744073709551616 : Nat) : Int) * 18446744073709551616 + ((M % 18446744073709551616 : Nat) : Int) = (M : Int) := by omega
  obtain ⟨k, hk, hdiv, hmod⟩ : ∃ k : Nat, (bnd (n : Int)).toNat = k ∧ M / 2 ^ k = M / 2 ^ n ∧ M % 2 ^ k = M % 2 ^ n := by
    unfold bnd
    rw [if_neg (by omega)]
    by_cases h : 128 < (n : Int)
    · rw [if_pos h]
      have h1 : M < 2 ^ 128 := by simpa using hM
      have h2 := pow2_mono (show 128 ≤ n by omega)
      exact ⟨128, rfl, by rw [Nat.div_eq_of_lt h1, Nat.div_eq_of_lt (by omega)], by rw [Nat.mod_eq_of_lt h1, Nat.mod_eq_of_lt (by omega)]⟩
    · rw [if_neg h]
      exact ⟨n, by simp, rfl, rfl⟩
  refine (shiftRight_any _ _ (n : Int) (by omega) (by omega) (by omega) (by omega) w).mono ?_
  rintro e w' ⟨rfl, hg⟩
  refine ⟨ret_wb ?_ ?_ ?_, hg⟩
  · unfold shrHi; rw [hk, e0, cast_div, hdiv]; omega
  · unfold shrLo; rw [hk, e0, cast_div, hdiv]; omega
  · unfold shrLost; rw [hk, e0, cast_mod, hmod]
    generalize M % 2 ^ n = R
    by_cases h : R = 0
    · simp [h]
    · simp [h]

theorem shlM (M : Nat) (hM : M < 340282366920938463463374607431768211456) (n : Nat) (hn : n ≤ 128) (h : M * 2 ^ n < 18446744073709551616) (w : World) :
    Calls Tryd.prog 81 #[.agg #[.int .u64 ((M / 18446744073709551616 : Nat) : Int), .int .u64 ((M % 18446744073709551616 : Nat) : Int)], .int .i64 n] w fun e w' => e = .returned (.agg #[.int .u64 0, .int .u64 ((M * 2 ^ n : Nat) : Int)]) ∧ Gr w w' := by
  have e0 : ((M / 18446744073709551616 : Nat) : Int) * 18446744073709551616 + ((M % 18446744073709551616 : Nat) : Int) = (M : Int) := by omega
  have hk : (bnd (n : Int)).toNat = n := by unfold bnd; rw [if_neg (by omega), if_neg (by omega)]; simp
  refine (shiftLeft_any _ _ (n : Int) (by omega) (by omega) (by omega) (by omega) w).mono ?_
  rintro e w' ⟨rfl, hg⟩
  refine ⟨ret_w ?_ ?_, hg⟩
  · unfold shlHi; rw [hk, e0, cast_mul]; omega
  · unfold shlLo; rw [hk, e0, cast_mul]; omega

end Go.Proofs.YtmllepdkbggpmaaDoor
