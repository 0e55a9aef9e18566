/- Quotients, roots and remainders, exactly: what chapter 4 answers; and the digits that the program takes, one after the other. -/
import Derived.Test.YtkflpogmhailhaaDoorA6
set_option linter.unusedVariables false
set_option linter.unusedSimpArgs false
namespace Go.Proofs.YtkflpogmhailhaaDoor

/-! The digits of a number, as the program takes them: a price, a number, the count of digits. -/
def dW (k : Nat) : Nat := 1152921504606846976 / 2 ^ k
def dS (c : Nat → Nat → Nat) (N : Nat) : Nat → Nat × Nat
  | 0 => (0, N)
  | k + 1 => if c (dS c N k).1 (dW k) ≤ (dS c N k).2 then ((dS c N k).1 ||| dW k, ((dS c N k).2 - c (dS c N k).1 (dW k)) * 2 % 18446744073709551616) else ((dS c N k).1, (dS c N k).2 * 2 % 18446744073709551616)
def dD (c : Nat → Nat → Nat) (N k : Nat) : Nat := if c (dS c N k).1 (dW k) ≤ (dS c N k).2 then 1 else 0
def dR (c : Nat → Nat → Nat) (N k : Nat) : Nat := if c (dS c N k).1 (dW k) ≤ (dS c N k).2 then (dS c N k).2 - c (dS c N k).1 (dW k) else (dS c N k).2
def dC (c : Nat → Nat → Nat) (N : Nat) : Nat → Nat
  | 0 => 0
  | k + 1 => dC c N k * 2 % 18446744073709551616 ||| dD c N k

theorem dD_lt (c : Nat → Nat → Nat) (N k : Nat) : dD c N k ≤ 1 := by unfold dD; split <;> omega
theorem dS_snd (c : Nat → Nat → Nat) (N k : Nat) : (dS c N (k + 1)).2 = dR c N k * 2 % 18446744073709551616 := by
  unfold dR; rw [dS]; split <;> rfl

theorem or_bit (a d : Nat) (h : d ≤ 1) : a * 2 % 18446744073709551616 ||| d = (a * 2 + d) % 18446744073709551616 := by
  have e : a * 2 % 18446744073709551616 = 2 ^ 1 * (a % 9223372036854775808) := by omega
  rw [e, ← Nat.two_pow_add_eq_or_of_lt (show d < 2 ^ 1 by omega)]
  omega

/-- The digits of a quotient below 2. -/
theorem quo_digits (N D k : Nat) (hN : N < 2 * D) (hD : D ≤ 4611686018427387904) :
    dR (fun _ _ => D) N k = N * 2 ^ k % D ∧ dC (fun _ _ => D) N (k + 1) = N * 2 ^ k / D % 18446744073709551616 := by
  have hD0 : 0 < D := by omega
  induction k with
  | zero =>
    have e1 : (dS (fun _ _ => D) N 0).2 = N := rfl
    rw [Nat.pow_zero, Nat.mul_one]
    simp only [dC, dR, dD, e1, Nat.zero_mul, Nat.zero_mod, Nat.zero_or]
    by_cases h : D ≤ N
    · rw [if_pos h, if_pos h]
      have h1 : N / D = 1 := by rw [Nat.div_eq_iff hD0]; omega
      have h2 := Nat.div_add_mod N D
      rw [h1, Nat.mul_one] at h2
      exact ⟨by omega, by rw [h1]⟩
    · rw [if_neg h, if_neg h]
      exact ⟨(Nat.mod_eq_of_lt (by omega)).symm, by rw [Nat.div_eq_of_lt (by omega)]⟩
  | succ k ih =>
    obtain ⟨i1, i2⟩ := ih
    have hr : N * 2 ^ k % D < D := Nat.mod_lt _ hD0
    have e1 : (dS (fun _ _ => D) N (k + 1)).2 = N * 2 ^ k % D * 2 := by rw [dS_snd, i1, Nat.mod_eq_of_lt (by omega)]
    have hda := Nat.div_add_mod (N * 2 ^ k) D
    obtain ⟨q, hq⟩ : ∃ q, q = N * 2 ^ k / D := ⟨_, rfl⟩
    obtain ⟨r, hrr⟩ : ∃ r, r = N * 2 ^ k % D := ⟨_, rfl⟩
    rw [← hq, ← hrr] at hda
    rw [← hrr] at e1 hr
    rw [← hq] at i2
    have hpw : N * 2 ^ (k + 1) = D * (2 * q) + 2 * r := by
      rw [Nat.pow_succ, ← Nat.mul_assoc, ← hda, Nat.add_mul, Nat.mul_assoc, Nat.mul_comm q 2, Nat.mul_comm r 2]
    rw [dC, or_bit _ _ (dD_lt _ _ _), i2]
    simp only [dR, dD, e1]
    by_cases h : D ≤ r * 2
    · rw [if_pos h, if_pos h]
      have e3 : N * 2 ^ (k + 1) = D * (2 * q + 1) + (2 * r - D) := by rw [hpw, Nat.mul_add, Nat.mul_one]; omega
      have e4 : N * 2 ^ (k + 1) / D = 2 * q + 1 := by rw [e3, Nat.mul_add_div hD0, Nat.div_eq_of_lt (by omega)]
      have e5 : N * 2 ^ (k + 1) % D = 2 * r - D := by rw [e3, Nat.mul_add_mod, Nat.mod_eq_of_lt (by omega)]
      rw [e4, e5]
      exact ⟨by omega, by omega⟩
    · rw [if_neg h, if_neg h]
      have e4 : N * 2 ^ (k + 1) / D = 2 * q := by rw [hpw, Nat.mul_add_div hD0, Nat.div_eq_of_lt (by omega), Nat.add_zero]
      have e5 : N * 2 ^ (k + 1) % D = 2 * r := by rw [hpw, Nat.mul_add_mod, Nat.mod_eq_of_lt (by omega)]
      rw [e4, e5]
      exact ⟨by omega, by omega⟩

/-- The price of a root's digit. -/
def rootC (b w : Nat) : Nat := (2 * b % 18446744073709551616 + w) % 18446744073709551616

theorem dW_two (k : Nat) (h : k ≤ 60) : dW k = 2 ^ (60 - k) := by
  unfold dW
  rw [show 1152921504606846976 = 2 ^ 60 by decide, Nat.pow_div h (by decide)]

theorem or_add (t w : Nat) (i : Nat) (h : w = 2 ^ i) : (2 * w * t) ||| w = 2 * w * t + w := by
  subst h
  rw [show 2 * 2 ^ i = 2 ^ (i + 1) by rw [Nat.pow_succ, Nat.mul_comm], Nat.two_pow_add_eq_or_of_lt (Nat.pow_lt_pow_right (by decide) (by omega))]

/-- The digits of a root, k of them taken: before = 2 * w * t. -/
def RootAt (N k t b l C w : Nat) : Prop := b = 2 * w * t ∧ C = t ∧ b + 2 * w ≤ 2305843009213693952 ∧ N * 1152921504606846976 = b * b + l * w ∧ l < 4 * b + 4 * w
theorem rootAt_zero (N : Nat) (h1 : N < 4611686018427387904) : RootAt N 0 0 0 N 0 1152921504606846976 := by
  refine ⟨by omega, rfl, by omega, by omega, by omega⟩
theorem dW_zero : dW 0 = 1152921504606846976 := by unfold dW; rw [Nat.pow_zero, Nat.div_one]
theorem root_at (N k : Nat) (h1 : N < 4611686018427387904) (hk : k ≤ 60) :
    ∃ t, RootAt N k t (dS rootC N k).1 (dS rootC N k).2 (dC rootC N k) (dW k) := by
  induction k with
  | zero => exact ⟨0, by rw [dW_zero, dS, dC]; exact rootAt_zero N h1⟩
  | succ k ih =>
    obtain ⟨t, i1, i2, i3, i4, i5⟩ := ih (by omega)
    have hw : dW k = 2 * dW (k + 1) := by rw [dW_two k (by omega), dW_two (k + 1) hk, show 60 - k = 60 - (k + 1) + 1 by omega, Nat.pow_succ, Nat.mul_comm]
    have hw0 : 0 < dW (k + 1) := by rw [dW_two (k + 1) hk]; exact Nat.pow_pos (by decide)
    have hor := or_add t (dW k) (60 - k) (dW_two k (by omega))
    obtain ⟨b, hb⟩ : ∃ b, b = (dS rootC N k).1 := ⟨_, rfl⟩
    obtain ⟨l, hl⟩ : ∃ l, l = (dS rootC N k).2 := ⟨_, rfl⟩
    obtain ⟨v, hv⟩ : ∃ v, v = dW (k + 1) := ⟨_, rfl⟩
    rw [← hv] at hw hw0
    rw [hw] at i1 i3 i4 i5 hor
    rw [← hb] at i1 i3 i4 i5
    rw [← hl] at i4 i5
    rw [← i1] at hor
    have hc : rootC b (2 * v) = 2 * b + 2 * v := by unfold rootC; omega
    have htv : dC rootC N k * 2 % 18446744073709551616 = dC rootC N k * 2 := by
      refine Nat.mod_eq_of_lt ?_
      rw [i2]
      have hm : 1 * (4 * t) ≤ v * (4 * t) := Nat.mul_le_mul_right _ hw0
      have : b = v * (4 * t) := by rw [i1, ← Nat.mul_assoc 2 2 v, Nat.mul_comm (2 * 2) v, Nat.mul_assoc v]
      omega
    by_cases h : 2 * b + 2 * v ≤ l
    · have hd : dD rootC N k = 1 := by unfold dD; rw [hw, ← hb, ← hl, hc, if_pos h]
      have hS : dS rootC N (k + 1) = (b + 2 * v, (l - (2 * b + 2 * v)) * 2) := by
        rw [dS, hw, ← hb, ← hl, hc, if_pos h, hor, Nat.mod_eq_of_lt (by omega)]
      refine ⟨2 * t + 1, ?_, ?_, ?_, ?_, ?_⟩
      · rw [hS, ← hv]; dsimp only
        rw [i1, Nat.mul_add, Nat.mul_one]
        have : 2 * (2 * v) * t = 2 * v * (2 * t) := by simp [Nat.mul_comm, Nat.mul_left_comm, Nat.mul_assoc]
        omega
      · rw [dC, or_bit _ _ (dD_lt _ _ _), hd, i2, Nat.mod_eq_of_lt (by rw [i2] at htv; omega)]; omega
      · rw [hS, ← hv]; dsimp only; omega
      · rw [hS, ← hv]; dsimp only
        rw [i4]
        obtain ⟨m, hm⟩ : ∃ m, l = 2 * b + 2 * v + m := ⟨l - (2 * b + 2 * v), by omega⟩
        rw [hm, show 2 * b + 2 * v + m - (2 * b + 2 * v) = m by omega]
        simp only [Nat.add_mul, Nat.mul_add]
        have e1 : 2 * b * (2 * v) = 2 * v * b + b * (2 * v) := by rw [Nat.mul_comm (2 * v) b]; rw [Nat.mul_assoc 2 b]; omega
        have e2 : m * 2 * v = m * (2 * v) := Nat.mul_assoc _ _ _
        omega
      · rw [hS, ← hv]; dsimp only; omega
    · have hd : dD rootC N k = 0 := by unfold dD; rw [hw, ← hb, ← hl, hc, if_neg h]
      have hS : dS rootC N (k + 1) = (b, l * 2) := by
        rw [dS, hw, ← hb, ← hl, hc, if_neg h, Nat.mod_eq_of_lt (by omega)]
      refine ⟨2 * t, ?_, ?_, ?_, ?_, ?_⟩
      · rw [hS, ← hv]; dsimp only
        rw [i1]
        simp [Nat.mul_comm, Nat.mul_left_comm, Nat.mul_assoc]
      · rw [dC, or_bit _ _ (dD_lt _ _ _), hd, i2, Nat.add_zero, Nat.mod_eq_of_lt (by rw [i2] at htv; omega)]; omega
      · rw [hS, ← hv]; dsimp only; omega
      · rw [hS, ← hv]; dsimp only
        rw [i4, Nat.mul_assoc]
      · rw [hS, ← hv]; dsimp only; omega

/-- n digits of a root: what they come to, and what is left. -/
theorem root_digits (N k : Nat) (h1 : N < 4611686018427387904) (hk : k < 60) :
    N * 1152921504606846976 = dC rootC N (k + 1) * dW k * (dC rootC N (k + 1) * dW k) + dR rootC N k * dW k ∧ dR rootC N k < 2 * (dC rootC N (k + 1) * dW k) + dW k ∧ dC rootC N (k + 1) < 18446744073709551616 := by
  obtain ⟨t, i1, i2, i3, i4, i5⟩ := root_at N (k + 1) h1 (by omega)
  obtain ⟨t0, j1, j2, j3, j4, j5⟩ := root_at N k h1 (by omega)
  have hw : dW k = 2 * dW (k + 1) := by rw [dW_two k (by omega), dW_two (k + 1) (by omega), show 60 - k = 60 - (k + 1) + 1 by omega, Nat.pow_succ, Nat.mul_comm]
  have hw0 : 0 < dW (k + 1) := by rw [dW_two (k + 1) (by omega)]; exact Nat.pow_pos (by decide)
  have hle : dR rootC N k ≤ (dS rootC N k).2 := by unfold dR; split <;> omega
  have e1 := dS_snd rootC N k
  rw [Nat.mod_eq_of_lt (by omega)] at e1
  have e2 : (dS rootC N (k + 1)).1 = dC rootC N (k + 1) * dW k := by rw [i1, i2, hw, Nat.mul_comm]
  rw [e2] at i3 i4 i5
  rw [e1] at i4 i5
  refine ⟨?_, by omega, ?_⟩
  · rw [i4, Nat.mul_assoc (dR rootC N k) 2, ← hw]
  · have : dC rootC N (k + 1) * 1 ≤ dC rootC N (k + 1) * dW k := Nat.mul_le_mul_left _ (by omega)
    omega
end Go.Proofs.YtkflpogmhailhaaDoor
