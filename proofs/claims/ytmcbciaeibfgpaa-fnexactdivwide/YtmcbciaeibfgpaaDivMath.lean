/- Plain arithmetic of long division by two digits of 32 bits. Nothing of the dump. -/
import Derived.Test.YtmcbciaeibfgpaaShiftMath
set_option linter.unusedVariables false
namespace Go.Proofs.Ytmcbciaeibfgpaa

/-- One digit's guess: n1 the divisor's upper digit, n0 its lower one, U the dividend's upper part, u its next digit; g the guess, t its rest. -/
structure Guess (n1 n0 U u g t : Int) : Prop where
  sum : g * n1 + t = U
  up : U * 4294967296 + u < (g + 1) * (n1 * 4294967296 + n0)
  small : g ≤ 4294967297
  nonneg : 0 ≤ g
  rest : 0 ≤ t

theorem mul_lt_of (a b c d : Int) (h1 : a ≤ c) (h2 : b ≤ d) (h3 : 0 ≤ b) (h4 : 0 ≤ c) : a * b ≤ c * d := Int.mul_le_mul h1 h2 h3 h4

theorem Guess.start (n1 n0 U u : Int) (h1 : 2147483648 ≤ n1) (h2 : n1 < 4294967296) (h3 : 0 ≤ n0) (h4 : n0 < 4294967296) (hU0 : 0 ≤ U) (hU : U < n1 * 4294967296 + n0) (hu0 : 0 ≤ u) (hu : u < 4294967296) :
    Guess n1 n0 U u (U / n1) (U % n1) ∧ U % n1 < n1 := by
  have e := Int.ediv_mul_add_emod U n1
  have r0 := Int.emod_nonneg U (show n1 ≠ 0 by omega)
  have r1 := Int.emod_lt_of_pos U (show 0 < n1 by omega)
  have q0 := Int.ediv_nonneg hU0 (show 0 ≤ n1 by omega)
  generalize U / n1 = g at *
  generalize U % n1 = t at *
  refine ⟨⟨e, ?_, ?_, q0, r0⟩, r1⟩
  · -- U*B + u < (g+1)*(n1*B + n0)
    have a : (g + 1) * (n1 * 4294967296 + n0) = g * n1 * 4294967296 + n1 * 4294967296 + (g + 1) * n0 := by
      rw [Int.add_mul, Int.one_mul, Int.mul_add, ← Int.mul_assoc, Int.add_mul, Int.one_mul]; omega
    have b : 0 ≤ (g + 1) * n0 := Int.mul_nonneg (by omega) h3
    rw [a]
    generalize (g + 1) * n0 = z at *
    generalize g * n1 = p at *
    omega
  · -- g ≤ B + 1
    rcases Classical.em (4294967297 < g) with c | c
    · have := Int.mul_le_mul (show (4294967298 : Int) ≤ g by omega) (Int.le_refl n1) (show 0 ≤ n1 by omega) q0
      generalize g * n1 = p at *
      omega
    · omega

/-- The guess is too great: one less. -/
theorem Guess.less {n1 n0 U u g t : Int} (h : Guess n1 n0 U u g t) (h1 : 2147483648 ≤ n1) (h3 : 0 ≤ n0) (hU : U < n1 * 4294967296 + n0) (hu : u < 4294967296) (hg : 1 ≤ g)
    (c : 4294967296 ≤ g ∨ 4294967296 * t + u < g * n0) : Guess n1 n0 U u (g - 1) (t + n1) := by
  have s := h.sum
  refine ⟨?_, ?_, by have := h.small; omega, by omega, by have := h.rest; omega⟩
  · rw [Int.sub_mul, Int.one_mul]; omega
  · have a : (g - 1 + 1) * (n1 * 4294967296 + n0) = g * n1 * 4294967296 + g * n0 := by
      rw [show g - 1 + 1 = g by omega, Int.mul_add, ← Int.mul_assoc]
    rcases c with c | c
    · have b : 4294967296 * (n1 * 4294967296 + n0) ≤ g * (n1 * 4294967296 + n0) := Int.mul_le_mul c (Int.le_refl _) (by omega) h.nonneg
      rw [show g - 1 + 1 = g by omega]
      generalize g * (n1 * 4294967296 + n0) = z at *
      omega
    · rw [a]
      generalize g * n1 = p at *
      generalize g * n0 = z at *
      omega

/-- The guess is right. -/
theorem Guess.right {n1 n0 U u g t : Int} (h : Guess n1 n0 U u g t) (c : g * n0 ≤ 4294967296 * t + u) :
    0 ≤ U * 4294967296 + u - g * (n1 * 4294967296 + n0) ∧ U * 4294967296 + u - g * (n1 * 4294967296 + n0) < n1 * 4294967296 + n0 := by
  have s := h.sum
  have up := h.up
  have a : g * (n1 * 4294967296 + n0) = g * n1 * 4294967296 + g * n0 := by rw [Int.mul_add, ← Int.mul_assoc]
  rw [Int.add_mul, Int.one_mul] at up
  constructor
  · rw [a]
    generalize g * n1 = p at *
    generalize g * n0 = z at *
    omega
  · generalize g * (n1 * 4294967296 + n0) = z at *
    omega

/-- The rest has grown over a digit: the guess is right. -/
theorem guess_grown {n1 n0 U u g t : Int} (h : Guess n1 n0 U u g t) (h3 : 0 ≤ n0) (h4 : n0 < 4294967296) (hu0 : 0 ≤ u) (hg : g ≤ 4294967296) (ht : 4294967296 ≤ t) : g * n0 ≤ 4294967296 * t + u := by
  have a : g * n0 ≤ 4294967296 * 4294967295 := Int.mul_le_mul hg (by omega) h3 (by omega)
  generalize g * n0 = z at *
  omega

/-- The two digits together. -/
theorem two_digits (n d P Y U1 u1 u0 q1 q0 R R2 : Int) (hd : 0 < d) (hP : 0 < P) (hY : Y = d * P) (hN : n * P = U1 * 18446744073709551616 + u1 * 4294967296 + u0)
    (hR : R = U1 * 4294967296 + u1 - q1 * Y) (hR2 : R2 = R * 4294967296 + u0 - q0 * Y) (r0 : 0 ≤ R2) (r1 : R2 < Y) :
    q1 * 4294967296 + q0 = n / d ∧ R2 / P = n % d := by
  have e : n * P = (q1 * 4294967296 + q0) * Y + R2 := by
    rw [hN, hR2, hR, Int.add_mul, Int.mul_right_comm q1]
    generalize q1 * Y = a
    generalize q0 * Y = b
    omega
  have hY0 : 0 < Y := by rw [hY]; exact Int.mul_pos hd hP
  have e1 : n * P / Y = q1 * 4294967296 + q0 := by
    rw [e, Int.add_comm, Int.add_mul_ediv_right _ _ (by omega), Int.ediv_eq_zero_of_lt r0 r1]; omega
  have e2 : n * P % Y = R2 := by
    rw [e, Int.add_comm, Int.add_mul_emod_self_right, Int.emod_eq_of_lt r0 r1]
  rw [hY, Int.mul_ediv_mul_of_pos_left _ _ hP] at e1
  have e3 : n * P % (d * P) = n % d * P := by
    have := Int.mul_emod_mul_of_pos n d hP
    rw [Int.mul_comm P n, Int.mul_comm P d, Int.mul_comm P] at this
    exact this
  rw [hY, e3] at e2
  exact ⟨e1.symm, by rw [← e2, Int.mul_ediv_cancel _ (by omega)]⟩
end Go.Proofs.Ytmcbciaeibfgpaa
