/- Quotients, roots and remainders, exactly: what chapter 4 answers; and the digits that the program takes, one after the other. -/
import Derived.Test.YtkflpogmhailhaaGreatDoorA6
set_option linter.unusedVariables false
set_option linter.unusedSimpArgs false
namespace Go.Proofs.YtkflpogmhailhaaGreatDoor

/-! The digits of a number, as the program takes them: a price, a number, the count of digits. -/
def dW (k : Nat) : Nat := 1152921504606846976 / 2 ^ k
def dS (c : Nat → Nat → Nat) (N : Nat) : Nat → Nat × Nat
  | 0 => (0, N)
  | k + 1 => if c (dS c N k).1 (dW k) ≤ (dS c N k).2 then ((dS c N k).1 ||| dW k, ((dS c N k).2 - c (dS c N k).1 (dW k)) * 2 % 18446744073709551616) else ((dS c N k).1, (dS c N k).2 * 2 % 18446744073709551616)
def dD (c : Nat → Nat → Nat) (N k : Nat) : Nat := if c (dS c N k).1 (dW k) ≤ (dS c N k).2 then 1 else 0
def dR (c : Nat → Nat → Nat) (N k : Nat) : Nat := if c (dS c N k).1 (dW k) ≤ (dS c N k).2 then (dS c N k).2 - c (dS c N k).1 (dW k) else (dS c N k).2
def dC (c : Nat → Nat → Nat) (N : Nat) : Nat → Nat
  | 0 => 0
  | k + 1 => dC c N k * 2 % 18446744073709551616 ||| dD c N k

theorem dD_lt (c : Nat → Nat → Nat) (N k : Nat) : dD c N k ≤ 1 := by unfold dD; split <;> omega
theorem dS_snd (c : Nat → Nat → Nat) (N k : Nat) : (dS c N (k + 1)).2 = dR c N k * 2 % 18446744073709551616 := by
  unfold dR; rw [dS]; split <;> rfl

theorem or_bit (a d : Nat) (h : d ≤ 1) : a * 2 % 18446744073709551616 ||| d = (a * 2 + d) % 18446744073709551616 := by
  have e : a * 2 % 18446744073709551616 = 2 ^ 1 * (a % 9223372036854775808) := by omega
  rw [e, ← Nat.two_pow_add_eq_or_of_lt (show d < 2 ^ 1 by omega)]
  omega

/-- The digits of a quotient below 2. -/
theorem quo_digits (N D k : Nat) (hN : N < 2 * D) (hD : D ≤ 4611686018427387904) :
    dR (fun _ _ => D) N k = N * 2 ^ k % D ∧ dC (fun _ _ => D) N (k + 1) = N * 2 ^ k / D % 18446744073709551616 := by
  have hD0 : 0 < D := by omega
  induction k with
  | zero =>
    have e1 : (dS (fun _ _ => D) N 0).2 = N := rfl
    rw [Nat.pow_zero, Nat.mul_one]
    simp only [dC, dR, dD, e1, Nat.zero_mul, Nat.zero_mod, Nat.zero_or]
    by_cases h : D ≤ N
    · rw [if_pos h, if_pos h]
      have h1 : N / D = 1 := by rw [Nat.div_eq_iff hD0]; omega
      have h2 := Nat.div_add_mod N D
      rw [h1, Nat.mul_one] at h2
      exact ⟨by omega, by rw [h1]⟩
    · rw [if_neg h, if_neg h]
      exact ⟨(Nat.mod_eq_of_lt (by omega)).symm, by rw [Nat.div_eq_of_lt (by omega)]⟩
  | succ k ih =>
    obtain ⟨i1, i2⟩ := ih
    have hr : N * 2 ^ k % D < D := Nat.mod_lt _ hD0
    have e1 : (dS (fun _ _ => D) N (k + 1)).2 = N * 2 ^ k % D * 2 := by rw [dS_snd, i1, Nat.mod_eq_of_lt (by omega)]
    have hda := Nat.div_add_mod (N * 2 ^ k) D
    obtain ⟨q, hq⟩ : ∃ q, q = N * 2 ^ k / D := ⟨_, rfl⟩
    obtain ⟨r, hrr⟩ : ∃ r, r = N * 2 ^ k % D := ⟨_, rfl⟩
    rw [← hq, ← hrr] at hda
    rw [← hrr] at e1 hr
    rw [← hq] at i2
    have hpw : N * 2 ^ (k + 1) = D * (2 * q) + 2 * r := by
      rw [Nat.pow_succ, ← Nat.mul_assoc, ← hda, Nat.add_mul, Nat.mul_assoc, Nat.mul_comm q 2, Nat.mul_comm r 2]
    rw [dC, or_bit _ _ (dD_lt _ _ _), i2]
    simp only [dR, dD, e1]
    by_cases h : D ≤ r * 2
    · rw [if_pos h, if_pos h]
      have e3 : N * 2 ^ (k + 1) = D * (2 * q + 1) + (2 * r - D) := by rw [hpw, Nat.mul_add, Nat.mul_one]; omega
      have e4 : N * 2 ^ (k + 1) / D = 2 * q + 1 := by rw [e3, Nat.mul_add_div hD0, Nat.div_eq_of_lt (by omega)]
      have e5 : N * 2 ^ (k + 1) % D = 2 * r - D := by rw [e3, Nat.mul_add_mod, Nat.mod_eq_of_lt (by omega)]
      rw [e4, e5]
      exact ⟨by omega, by omega⟩
    · rw [if_neg h, if_neg h]
      have e4 : N * 2 ^ (k + 1) / D = 2 * q := by rw [hpw, Nat.mul_add_div hD0, Nat.div_eq_of_lt (by omega), Nat.add_zero]
      have e5 : N * 2 ^ (k + 1) % D = 2 * r := by rw [hpw, Nat.mul_add_mod, Nat.mod_eq_of_lt (by omega)]
      rw [e4, e5]
      exact ⟨by omega, by omega⟩

/-- The price of a root's digit. -/
def rootC (b w : Nat) : Nat := (2 * b % 18446744073709551616 + w) % 18446744073709551616

theorem dW_two (k : Nat) (h : k ≤ 60) : dW k = 2 ^ (60 - k) := by
  unfold dW
  rw [show 1152921504606846976 = 2 ^ 60 by decide, Nat.pow_div h (by decide)]

theorem or_add (t w : Nat) (i : Nat) (h : w = 2 ^ i) : (2 * w * t) ||| w = 2 * w * t + w := by
  subst h
  rw [show 2 * 2 ^ i = 2 ^ (i + 1) by rw [Nat.pow_succ, Nat.mul_comm], Nat.two_pow_add_eq_or_of_lt (Nat.pow_lt_pow_right (by decide) (by omega))]

/-- The digits of a root, k of them taken: before = 2 * w * t. -/
def RootAt (N k t b l C w : Nat) : Prop := b = 2 * w * t ∧ C = t ∧ b + 2 * w ≤ 2305843009213693952 ∧ N * 1152921504606846976 = b * b + l * w ∧ l < 4 * b + 4 * w
theorem rootAt_zero (N : Nat) (h1 : N < 4611686018427387904) : RootAt N 0 0 0 N 0 1152921504606846976 := by
  refine ⟨by omega, rfl, by omega, by omega, by omega⟩
theorem dW_zero : dW 0 = 1152921504606846976 := by unfold dW; rw [Nat.pow_zero, Nat.div_one]
theorem root_at (N k : Nat) (h1 : N < 4611686018427387904) (hk : k ≤ 60) :
    ∃ t, RootAt N k t (dS rootC N k).1 (dS rootC N k).2 (dC rootC N k) (dW k) := by
  induction k with
  | zero => exact ⟨0, by rw [dW_zero, dS, dC]; exact rootAt_zero N h1⟩
  | succ k ih =>
    obtain ⟨t, i1, i2, i3, i4, i5⟩ := ih (by omega)
    have hw : dW k = 2 * dW (k + 1) := by rw [dW_two k (by omega), dW_two (k + 1) hk, show 60 - k = 60 - (k + 1) + 1 by omega, Nat.pow_succ, Nat.mul_comm]
    have hw0 : 0 < dW (k + 1) := by rw [dW_two (k + 1) hk]; exact Nat.pow_pos (by decide)
    have hor := or_add t (dW k) (60 - k) (dW_two k (by omega))
    obtain ⟨b, hb⟩ : ∃ b, b = (dS rootC N k).1 := ⟨_, rfl⟩
    obtain ⟨l, hl⟩ : ∃ l, l = (dS rootC N k).2 := ⟨_, rfl⟩
    obtain ⟨v, hv⟩ : ∃ v, v = dW (k + 1) := ⟨_, rfl⟩
    rw [← hv] at hw hw0
    rw [hw] at i1 i3 i4 i5 hor
    rw [← hb] at i1 i3 i4 i5
    rw [← hl] at i4 i5
    rw [← i1] at hor
    have hc : rootC b (2 * v) = 2 * b + 2 * v := by unfold rootC; omega
    have htv : dC rootC N k * 2 % 18446744073709551616 = dC rootC N k * 2 := by
      refine Nat.mod_eq_of_lt ?_
      rw [i2]
      have hm : 1 * (4 * t) ≤ v * (4 * t) := Nat.mul_le_mul_right _ hw0
      have : b = v * (4 * t) := by rw [i1, ← Nat.mul_assoc 2 2 v, Nat.mul_comm (2 * 2) v, Nat.mul_assoc v]
      omega
    by_cases h : 2 * b + 2 * v ≤ l
    · have hd : dD rootC N k = 1 := by unfold dD; rw [hw, ← hb, ← hl, hc, if_pos h]
      have hS : dS rootC N (k + 1) = (b + 2 * v, (l - (2 * b + 2 * v)) * 2) := by
        rw [dS, hw, ← hb, ← hl, hc, if_pos h, hor, Nat.mod_eq_of_lt (by omega)]
      refine ⟨2 * t + 1, ?_, ?_, ?_, ?_, ?_⟩
      · rw [hS, ← hv]; dsimp only
        rw [i1, Nat.mul_add, Nat.mul_one]
        have : 2 * (2 * v) * t = 2 * v * (2 * t) := by simp [Nat.mul_comm, Nat.mul_left_comm, Nat.mul_assoc]
        omega
      · rw [dC, or_bit _ _ (dD_lt _ _ _), hd, i2, Nat.mod_eq_of_lt (by rw [i2] at htv; omega)]; omega
      · rw [hS, ← hv]; dsimp only; omega
      · rw [hS, ← hv]; dsimp only
        rw [i4]
        obtain ⟨m, hm⟩ : ∃ m, l = 2 * b + 2 * v + m := ⟨l - (2 * b + 2 * v), by omega⟩
        rw [hm, show 2 * b + 2 * v + m - (2 * b + 2 * v) = m by omega]
        simp only [Nat.add_mul, Nat.mul_add]
        have e1 : 2 * b * (2 * v) = 2 * v * b + b * (2 * v) := by rw [Nat.mul_comm (2 * v) b]; rw [Nat.mul_assoc 2 b]; omega
        have e2 : m * 2 * v = m * (2 * v) := Nat.mul_assoc _ _ _
        omega
      · rw [hS, ← hv]; dsimp only; omega
    · have hd : dD rootC N k = 0 := by unfold dD; rw [hw, ← hb, ← hl, hc, if_neg h]
      have hS : dS rootC N (k + 1) = (b, l * 2) := by
        rw [dS, hw, ← hb, ← hl, hc, if_neg h, Nat.mod_eq_of_lt (by omega)]
      refine ⟨2 * t, ?_, ?_, ?_, ?_, ?_⟩
      · rw [hS, ← hv]; dsimp only
        rw [i1]
        simp [Nat.mul_comm, Nat.mul_left_comm, Nat.mul_assoc]
      · rw [dC, or_bit _ _ (dD_lt _ _ _), hd, i2, Nat.add_zero, Nat.mod_eq_of_lt (by rw [i2] at htv; omega)]; omega
      · rw [hS, ← hv]; dsimp only; omega
      · rw [hS, ← hv]; dsimp only
        rw [i4, Nat.mul_assoc]
      · rw [hS, ← hv]; dsimp only; omega

/-- n digits of a root: what they come to, and what is left. -/
theorem root_digits (N k : Nat) (h1 : N < 4611686018427387904) (hk : k < 60) :
    N * 1152921504606846976 = dC rootC N (k + 1) * dW k * (dC rootC N (k + 1) * dW k) + dR rootC N k * dW k ∧ dR rootC N k < 2 * (dC rootC N (k + 1) * dW k) + dW k ∧ dC rootC N (k + 1) < 18446744073709551616 := by
  obtain ⟨t, i1, i2, i3, i4, i5⟩ := root_at N (k + 1) h1 (by omega)
  obtain ⟨t0, j1, j2, j3, j4, j5⟩ := root_at N k h1 (by omega)
  have hw : dW k = 2 * dW (k + 1) := by rw [dW_two k (by omega), dW_two (k + 1) (by omega), show 60 - k = 60 - (k + 1) + 1 by omega, Nat.pow_succ, Nat.mul_comm]
  have hw0 : 0 < dW (k + 1) := by rw [dW_two (k + 1) (by omega)]; exact Nat.pow_pos (by decide)
  have hle : dR rootC N k ≤ (dS rootC N k).2 := by unfold dR; split <;> omega
  have e1 := dS_snd rootC N k
  rw [Nat.mod_eq_of_lt (by omega)] at e1
  have e2 : (dS rootC N (k + 1)).1 = dC rootC N (k + 1) * dW k := by rw [i1, i2, hw, Nat.mul_comm]
  rw [e2] at i3 i4 i5
  rw [e1] at i4 i5
  refine ⟨?_, by omega, ?_⟩
  · rw [i4, Nat.mul_assoc (dR rootC N k) 2, ← hw]
  · have : dC rootC N (k + 1) * 1 ≤ dC rootC N (k + 1) * dW k := Nat.mul_le_mul_left _ (by omega)
    omega
end Go.Proofs.YtkflpogmhailhaaGreatDoor

/- Chapter 4: the exact results, and that what the program holds rounds like them. -/
set_option linter.unusedVariables false
set_option linter.unusedSimpArgs false
namespace Go.Proofs.YtkflpogmhailhaaGreatDoor

def oneIf (t : Bool) : Nat := if t then 1 else 0
theorem oneIf_le (t : Bool) : oneIf t ≤ 1 := by cases t <;> decide

/-- A number with a rest, and its highest digits with a rest, round like one whole number. -/
theorem RoundIs.cut {p mn mx one inf mode sign : Int} {m : Nat} {e z fl : Int} (k : Nat) (t : Bool) (hX : 0 < m / 2 ^ k) (hp : 0 ≤ p) (hn : p + 2 ≤ (nb (m / 2 ^ k) : Int)) (st : Bool) (hst : st = (decide (m % 2 ^ k ≠ 0) || t)) :
    RoundIs p mn mx one inf mode sign (m / 2 ^ k) (e + k) st z fl ↔ RoundIs p mn mx one inf mode sign (2 * m + oneIf t) (e - 1) false z fl := by
  have hb := oneIf_le t
  have hp2 : 0 < 2 ^ k := Nat.pow_pos (by decide)
  have e1 : (2 * m + oneIf t) / 2 ^ (k + 1) = m / 2 ^ k := by
    rw [Nat.pow_succ, Nat.mul_comm (2 ^ k) 2, ← Nat.div_div_eq_div_mul]
    rw [show (2 * m + oneIf t) / 2 = m by omega]
  have e2 : (2 * m + oneIf t) % 2 ^ (k + 1) = 2 * (m % 2 ^ k) + oneIf t := by
    have h1 := Nat.div_add_mod (2 * m + oneIf t) (2 ^ (k + 1))
    rw [e1] at h1
    have h2 := Nat.div_add_mod m (2 ^ k)
    have h3 : 2 ^ (k + 1) * (m / 2 ^ k) = 2 * (2 ^ k * (m / 2 ^ k)) := by rw [Nat.pow_succ, Nat.mul_comm (2 ^ k) 2, Nat.mul_assoc]
    omega
  have h := RoundIs.trunc (p := p) (mn := mn) (mx := mx) (one := one) (inf := inf) (mode := mode) (sign := sign) (X := 2 * m + oneIf t) (e := e - 1) (z := z) (fl := fl) (k + 1) (by rw [e1]; exact hX) hp (fun _ => by rw [e1]; exact hn)
  rw [e1, e2, show e - 1 + ((k + 1 : Nat) : Int) = e + k by omega] at h
  have e3 : decide (2 * (m % 2 ^ k) + oneIf t ≠ 0) = st := by
    rw [hst]
    cases t
    · simp [oneIf]; omega
    · simp [oneIf]
  rw [e3] at h
  exact h

theorem RoundIs.rest {p mn mx one inf mode sign : Int} {m : Nat} {e z fl : Int} (t : Bool) (hX : 0 < m) (hp : 0 ≤ p) (hn : p + 2 ≤ (nb m : Int)) :
    RoundIs p mn mx one inf mode sign m e t z fl ↔ RoundIs p mn mx one inf mode sign (2 * m + oneIf t) (e - 1) false z fl := by
  have h := RoundIs.cut (p := p) (mn := mn) (mx := mx) (one := one) (inf := inf) (mode := mode) (sign := sign) (m := m) (e := e) (z := z) (fl := fl) 0 t (by rw [Nat.pow_zero, Nat.div_one]; exact hX) hp (by rw [Nat.pow_zero, Nat.div_one]; exact hn) t (by rw [Nat.pow_zero, Nat.mod_one]; simp)
  rw [Nat.pow_zero, Nat.div_one, show e + ((0 : Nat) : Int) = e by omega] at h
  exact h

/-! Quotients. -/
theorem quo_cut (A B s k : Nat) (hB : 0 < B) : A * 2 ^ (s + k) / B / 2 ^ k = A * 2 ^ s / B ∧ (decide (A * 2 ^ (s + k) / B % 2 ^ k ≠ 0) || decide (A * 2 ^ (s + k) % B ≠ 0)) = decide (A * 2 ^ s % B ≠ 0) := by
  have hp2 : 0 < 2 ^ k := Nat.pow_pos (by decide)
  have e0 : A * 2 ^ (s + k) = A * 2 ^ s * 2 ^ k := by rw [Nat.pow_add, Nat.mul_assoc]
  rw [e0]
  obtain ⟨X, hX⟩ : ∃ X, X = A * 2 ^ s := ⟨_, rfl⟩
  rw [← hX]
  have e1 : X * 2 ^ k / B / 2 ^ k = X / B := by rw [Nat.div_div_eq_div_mul, Nat.mul_div_mul_right _ _ hp2]
  refine ⟨e1, ?_⟩
  have h1 := Nat.div_add_mod (X * 2 ^ k) B
  have h2 := Nat.div_add_mod (X * 2 ^ k / B) (2 ^ k)
  have h3 := Nat.div_add_mod X B
  rw [e1] at h2
  by_cases c : X % B = 0
  · rw [c, Nat.add_zero] at h3
    have h4 : X * 2 ^ k = B * (X / B * 2 ^ k) := by rw [← Nat.mul_assoc, h3]
    have h5 : X * 2 ^ k / B = X / B * 2 ^ k := by rw [h4, Nat.mul_div_cancel_left _ hB]
    have h6 : X * 2 ^ k % B = 0 := by rw [h4]; exact Nat.mul_mod_right _ _
    rw [h5, Nat.mul_mod_left, h6, c]
    rfl
  · rw [decide_eq_true (p := X % B ≠ 0) c]
    by_cases c1 : X * 2 ^ k % B = 0
    · by_cases c2 : X * 2 ^ k / B % 2 ^ k = 0
      · exfalso
        rw [c1, Nat.add_zero] at h1
        rw [c2, Nat.add_zero] at h2
        rw [← h2, Nat.mul_comm (2 ^ k), ← Nat.mul_assoc] at h1
        have h7 : B * (X / B) = X := Nat.eq_of_mul_eq_mul_right hp2 h1
        omega
      · simp [c2]
    · simp [c1]

theorem quo_big (A B s q : Nat) (hB : 0 < B) (hA : 2 ^ q * B ≤ A * 2 ^ s) : q + 1 ≤ nb (A * 2 ^ s / B) := by
  have : 2 ^ q ≤ A * 2 ^ s / B := by rw [Nat.le_div_iff_mul_le hB]; exact hA
  exact nb_gt this

/-! Roots, rounded down. -/
def IsRoot (m r : Nat) : Prop := r * r ≤ m ∧ m < (r + 1) * (r + 1)
theorem mul_self_lt {a b : Nat} (h : a * a < b * b) : a < b := by
  rcases Nat.lt_or_ge a b with c | c
  · exact c
  · have := Nat.mul_le_mul c c; omega
theorem IsRoot.one {m r s : Nat} (h : IsRoot m r) (k : IsRoot m s) : r = s := by
  have h1 : r < s + 1 := mul_self_lt (Nat.lt_of_le_of_lt h.1 k.2)
  have h2 : s < r + 1 := mul_self_lt (Nat.lt_of_le_of_lt k.1 h.2)
  omega
theorem IsRoot.scale {m r C : Nat} (t : Nat) (h : IsRoot m C) (k : IsRoot (m * 2 ^ (2 * t)) r) : r / 2 ^ t = C ∧ (decide (r % 2 ^ t ≠ 0) || decide (r * r ≠ m * 2 ^ (2 * t))) = decide (C * C ≠ m) := by
  have hp2 : 0 < 2 ^ t := Nat.pow_pos (by decide)
  have e0 : 2 ^ (2 * t) = 2 ^ t * 2 ^ t := by rw [← Nat.pow_add]; congr 1; omega
  rw [e0] at k ⊢
  obtain ⟨P, hP⟩ : ∃ P, P = 2 ^ t := ⟨_, rfl⟩
  rw [← hP] at k hp2 ⊢
  have sq : ∀ a : Nat, a * P * (a * P) = a * a * (P * P) := fun a => by simp only [Nat.mul_comm, Nat.mul_left_comm, Nat.mul_assoc]
  have e1 : C * P ≤ r := by
    have : C * P * (C * P) < (r + 1) * (r + 1) := by
      rw [sq]; exact Nat.lt_of_le_of_lt (Nat.mul_le_mul_right _ h.1) k.2
    have := mul_self_lt this
    omega
  have e2 : r < (C + 1) * P := by
    refine mul_self_lt (Nat.lt_of_le_of_lt k.1 ?_)
    rw [sq]
    exact Nat.mul_lt_mul_of_pos_right h.2 (Nat.mul_pos hp2 hp2)
  have e3 : r / P = C := by
    rw [Nat.div_eq_iff hp2]
    rw [Nat.add_mul] at e2
    omega
  refine ⟨e3, ?_⟩
  have h2 := Nat.div_add_mod r P
  rw [e3] at h2
  by_cases c : C * C = m
  · have : IsRoot (m * (P * P)) (C * P) := by
      refine ⟨?_, ?_⟩
      · rw [sq, c]; exact Nat.le_refl _
      · rw [← c, ← sq]; exact Nat.mul_lt_mul'' (Nat.lt_succ_self _) (Nat.lt_succ_self _)
    have hr := k.one this
    have h4 : r % P = 0 := by rw [hr]; exact Nat.mul_mod_left _ _
    have h5 : r * r = m * (P * P) := by rw [hr, sq, c]
    rw [h4, h5, c]
    simp
  · rw [decide_eq_true (p := C * C ≠ m) c]
    by_cases c1 : r % P = 0
    · by_cases c2 : r * r = m * (P * P)
      · exfalso
        rw [c1, Nat.add_zero, Nat.mul_comm] at h2
        rw [← h2, sq] at c2
        exact c (Nat.eq_of_mul_eq_mul_right (Nat.mul_pos hp2 hp2) c2)
      · simp [c2]
    · simp [c1]

/-- The digits of a root, n = p + 3 of them, of a number with p digits. -/
theorem root_of_digits (A p od : Nat) (hp1 : 1 ≤ p) (hp : p ≤ 53) (hod : od ≤ 1) (hA : A < 2 ^ p) :
    IsRoot (A * 2 ^ (p + 5 + od)) (dC rootC (A * 2 ^ (61 - p + od)) (p + 3)) ∧ (dR rootC (A * 2 ^ (61 - p + od)) (p + 2) ≠ 0 ↔ dC rootC (A * 2 ^ (61 - p + od)) (p + 3) * dC rootC (A * 2 ^ (61 - p + od)) (p + 3) ≠ A * 2 ^ (p + 5 + od)) ∧ dC rootC (A * 2 ^ (61 - p + od)) (p + 3) < 18446744073709551616 := by
  have hN : A * 2 ^ (61 - p + od) < 4611686018427387904 := by
    have h1 : A * 2 ^ (61 - p + od) < 2 ^ p * 2 ^ (61 - p + od) := Nat.mul_lt_mul_of_pos_right hA (Nat.pow_pos (by decide))
    rw [← Nat.pow_add] at h1
    have h2 : 2 ^ (p + (61 - p + od)) ≤ 2 ^ 62 := Nat.pow_le_pow_right (by decide) (by omega)
    have h3 : 2 ^ 62 = 4611686018427387904 := by decide
    omega
  obtain ⟨d1, d2, d3⟩ := root_digits (A * 2 ^ (61 - p + od)) (p + 2) hN (by omega)
  have hw : dW (p + 2) = 2 ^ (58 - p) := by rw [dW_two _ (by omega)]; congr 1; omega
  obtain ⟨W, hW⟩ : ∃ W, W = 2 ^ (58 - p) := ⟨_, rfl⟩
  rw [hw, ← hW] at d1 d2
  have hW0 : 0 < W := by rw [hW]; exact Nat.pow_pos (by decide)
  have hL : A * 2 ^ (61 - p + od) * 1152921504606846976 = A * 2 ^ (p + 5 + od) * (W * W) := by
    rw [hW, ← Nat.pow_add, Nat.mul_assoc, Nat.mul_assoc, show 1152921504606846976 = 2 ^ 60 by decide, ← Nat.pow_add, ← Nat.pow_add]
    congr 2
    omega
  rw [hL] at d1
  obtain ⟨C, hC⟩ : ∃ C, C = dC rootC (A * 2 ^ (61 - p + od)) (p + 3) := ⟨_, rfl⟩
  obtain ⟨R, hR⟩ : ∃ R, R = dR rootC (A * 2 ^ (61 - p + od)) (p + 2) := ⟨_, rfl⟩
  obtain ⟨m, hm⟩ : ∃ m, m = A * 2 ^ (p + 5 + od) := ⟨_, rfl⟩
  rw [show p + 2 + 1 = p + 3 from rfl] at d1 d2 d3
  rw [← hC, ← hR, ← hm] at d1
  rw [← hC, ← hR] at d2
  rw [← hC] at d3
  rw [← hC, ← hR, ← hm]
  have sq : C * W * (C * W) = C * C * (W * W) := by simp only [Nat.mul_comm, Nat.mul_left_comm, Nat.mul_assoc]
  rw [sq] at d1
  have hWW : 0 < W * W := Nat.mul_pos hW0 hW0
  refine ⟨⟨?_, ?_⟩, ?_, d3⟩
  · refine Nat.le_of_mul_le_mul_right ?_ hWW
    rw [d1]; omega
  · refine Nat.lt_of_mul_lt_mul_right (a := W * W) ?_
    rw [d1]
    have h1 : (C + 1) * (C + 1) * (W * W) = C * C * (W * W) + (2 * (C * W) + W) * W := by
      simp only [Nat.add_mul, Nat.mul_add, Nat.one_mul, Nat.mul_one]
      have : 2 * (C * W) * W = C * (W * W) + C * (W * W) := by rw [Nat.mul_assoc, Nat.mul_assoc, Nat.two_mul]
      omega
    rw [h1]
    have := Nat.mul_lt_mul_of_pos_right d2 hW0
    omega
  · constructor
    · intro h c
      rw [← c] at d1
      have : 0 < R * W := Nat.mul_pos (by omega) hW0
      omega
    · intro h c
      rw [c, Nat.zero_mul, Nat.add_zero] at d1
      exact h (Nat.eq_of_mul_eq_mul_right hWW d1).symm

/-! Remainders: the rest of X over d, or d less it; turned where it is that. -/
def remUp (X d : Nat) : Bool := decide (d < 2 * (X % d) ∨ d = 2 * (X % d) ∧ X / d % 2 = 1)
def remM (X d : Nat) : Nat := if remUp X d then d - X % d else X % d
/-- What the program makes of the digits C down to a half and of what is left. -/
def digUp (C L : Nat) : Bool := decide (C % 2 = 1 ∧ (C / 2 % 2 = 1 ∨ L ≠ 0))
def digM (C L B : Nat) : Nat := if digUp C L then B - L else if C % 2 = 1 then B else L

theorem rem_hi (X B : Nat) (hB : 0 < B) : digUp (2 * X / B) (2 * X % B) = remUp X B ∧ digM (2 * X / B) (2 * X % B) B = 2 * remM X B := by
  obtain ⟨q, hq⟩ : ∃ q, q = X / B := ⟨_, rfl⟩
  obtain ⟨r, hr⟩ : ∃ r, r = X % B := ⟨_, rfl⟩
  have h1 := Nat.div_add_mod X B
  have h2 := Nat.mod_lt X hB
  rw [← hq, ← hr] at h1
  rw [← hr] at h2
  unfold digM remM digUp remUp
  rw [← hq, ← hr]
  have e0 : 2 * X = B * (2 * q) + 2 * r := by rw [← h1, Nat.mul_add, ← Nat.mul_assoc, ← Nat.mul_assoc, Nat.mul_comm 2 B]
  by_cases c : B ≤ 2 * r
  · have e1 : 2 * X = B * (2 * q + 1) + (2 * r - B) := by rw [e0, Nat.mul_add, Nat.mul_one]; omega
    have e2 : 2 * X / B = 2 * q + 1 := by rw [e1, Nat.mul_add_div hB, Nat.div_eq_of_lt (by omega)]
    have e3 : 2 * X % B = 2 * r - B := by rw [e1, Nat.mul_add_mod, Nat.mod_eq_of_lt (by omega)]
    rw [e2, e3]
    have e4 : decide ((2 * q + 1) % 2 = 1 ∧ ((2 * q + 1) / 2 % 2 = 1 ∨ 2 * r - B ≠ 0)) = decide (B < 2 * r ∨ B = 2 * r ∧ q % 2 = 1) := by
      rw [decide_eq_decide]; omega
    rw [e4]
    refine ⟨rfl, ?_⟩
    rw [if_pos (show (2 * q + 1) % 2 = 1 by omega)]
    by_cases c1 : B < 2 * r ∨ B = 2 * r ∧ q % 2 = 1
    · rw [decide_eq_true c1, if_pos rfl, if_pos rfl]; omega
    · rw [decide_eq_false c1, if_neg (by decide), if_neg (by decide)]; omega
  · have e2 : 2 * X / B = 2 * q := by rw [e0, Nat.mul_add_div hB, Nat.div_eq_of_lt (by omega), Nat.add_zero]
    have e3 : 2 * X % B = 2 * r := by rw [e0, Nat.mul_add_mod, Nat.mod_eq_of_lt (by omega)]
    rw [e2, e3]
    have e4 : decide (2 * q % 2 = 1 ∧ (2 * q / 2 % 2 = 1 ∨ 2 * r ≠ 0)) = decide (B < 2 * r ∨ B = 2 * r ∧ q % 2 = 1) := by
      rw [decide_eq_decide]; omega
    rw [e4]
    refine ⟨rfl, ?_⟩
    rw [if_neg (show ¬ 2 * q % 2 = 1 by omega), decide_eq_false (show ¬ (B < 2 * r ∨ B = 2 * r ∧ q % 2 = 1) by omega), if_neg (by decide), if_neg (by decide)]

theorem rem_lo (A B : Nat) (hB : 0 < B) (hA : A < 2 * B) : digUp (A / B) (A % B) = remUp A (2 * B) ∧ digM (A / B) (A % B) B = remM A (2 * B) := by
  unfold digM remM digUp remUp
  rw [Nat.mod_eq_of_lt hA, Nat.div_eq_of_lt hA]
  by_cases c : B ≤ A
  · have e2 : A / B = 1 := by rw [Nat.div_eq_iff hB]; omega
    have e3 : A % B = A - B := by have := Nat.div_add_mod A B; rw [e2, Nat.mul_one] at this; omega
    rw [e2, e3]
    have e4 : decide (1 % 2 = 1 ∧ (1 / 2 % 2 = 1 ∨ A - B ≠ 0)) = decide (2 * B < 2 * A ∨ 2 * B = 2 * A ∧ 0 % 2 = 1) := by
      rw [decide_eq_decide]; omega
    rw [e4]
    refine ⟨rfl, ?_⟩
    by_cases c1 : 2 * B < 2 * A ∨ 2 * B = 2 * A ∧ 0 % 2 = 1
    · rw [decide_eq_true c1, if_pos rfl, if_pos rfl]; omega
    · rw [decide_eq_false c1, if_neg (by decide), if_pos (by decide), if_neg (by decide)]; omega
  · have e2 : A / B = 0 := Nat.div_eq_of_lt (by omega)
    have e3 : A % B = A := Nat.mod_eq_of_lt (by omega)
    rw [e2, e3]
    rw [decide_eq_false (show ¬ (2 * B < 2 * A ∨ 2 * B = 2 * A ∧ 0 % 2 = 1) by omega), decide_eq_false (show ¬ (0 % 2 = 1 ∧ (0 / 2 % 2 = 1 ∨ A ≠ 0)) by omega)]
    exact ⟨rfl, by simp⟩

theorem rem_self (A d : Nat) (h : 2 * A < d) : remUp A d = false ∧ remM A d = A := by
  have : remUp A d = false := by unfold remUp; rw [Nat.mod_eq_of_lt (by omega)]; exact decide_eq_false (by omega)
  exact ⟨this, by unfold remM; rw [this, Nat.mod_eq_of_lt (by omega)]; rfl⟩
end Go.Proofs.YtkflpogmhailhaaGreatDoor
