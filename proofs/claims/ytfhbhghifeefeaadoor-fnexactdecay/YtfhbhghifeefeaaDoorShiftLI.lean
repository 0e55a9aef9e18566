/- impl.ShiftLeft. -/
import Derived.Test.YtfhbhghifeefeaaDoorShift
import Derived.Test.YtfhbhghifeefeaaDoorWords
set_option linter.unusedVariables false
set_option linter.unusedSimpArgs false
namespace Go.Proofs.YtfhbhghifeefeaaDoor
open Go.RowKit

/-- What was lost in a right shift is seen by the shift back. -/
theorem lost_back (h l : Int) (k : Nat) (h0 : 0 ≤ h) (l0 : 0 ≤ l) (h1 : h < 18446744073709551616) (l1 : l < 18446744073709551616) :
    (shlHi (shrHi h l k) (shrLo h l k) k = h ∧ shlLo (shrHi h l k) (shrLo h l k) k = l ↔ shrLost h l k = false) ∧ (0 ≤ shrHi h l k ∧ shrHi h l k < 18446744073709551616 ∧ 0 ≤ shrLo h l k ∧ shrLo h l k < 18446744073709551616) := by
  have hp : (0 : Int) < 2 ^ k := Int.pow_pos (by decide)
  unfold shlHi shlLo shrHi shrLo shrLost
  have hV0 : 0 ≤ h * 18446744073709551616 + l := by omega
  have hV1 : h * 18446744073709551616 + l < 340282366920938463463374607431768211456 := by omega
  have eh : h = (h * 18446744073709551616 + l) / 18446744073709551616 := by omega
  have el : l = (h * 18446744073709551616 + l) % 18446744073709551616 := by omega
  generalize h * 18446744073709551616 + l = V at *
  subst eh el
  have e1 : V / 2 ^ k / 18446744073709551616 * 18446744073709551616 + V / 2 ^ k % 18446744073709551616 = V / 2 ^ k := by omega
  rw [e1]
  have e2 : V / 2 ^ k * 2 ^ k + V % 2 ^ k = V := Int.ediv_mul_add_emod V (2 ^ k)
  have e3 : 0 ≤ V % 2 ^ k := Int.emod_nonneg _ (by omega)
  have e4 : 0 ≤ V / 2 ^ k := Int.ediv_nonneg hV0 (by omega)
  have e5 : V / 2 ^ k ≤ V := Int.ediv_le_self _ hV0
  have e6 : 0 ≤ V / 2 ^ k * 2 ^ k := Int.mul_nonneg e4 (by omega)
  generalize V / 2 ^ k * 2 ^ k = T at *
  generalize V / 2 ^ k = D at *
  generalize V % 2 ^ k = R at *
  refine ⟨?_, by omega, by omega, by omega, by omega⟩
  simp only [decide_eq_false_iff_not, Classical.not_not]
  omega
end Go.Proofs.YtfhbhghifeefeaaDoor
