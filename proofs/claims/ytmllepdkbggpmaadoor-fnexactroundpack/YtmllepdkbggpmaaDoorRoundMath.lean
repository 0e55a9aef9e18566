/- Rounding: plain mathematics. -/
import Derived.Test.YtmllepdkbggpmaaDoorBigMath
set_option linter.unusedVariables false
namespace Go.Proofs.YtmllepdkbggpmaaDoor

/-- A magnitude M * 2^e in units of 2^q, rounded down. -/
def cutLo (M : Nat) (e q : Int) : Nat := if q ≤ e then M * 2 ^ (e - q).toNat else M / 2 ^ (q - e).toNat
/-- Half and rest, as 2 * half + rest, of M over 2^d. -/
def hr (M d : Nat) (rest : Bool) : Nat := (if M / 2 ^ (d - 1) % 2 = 1 then 2 else 0) + (if M % 2 ^ (d - 1) ≠ 0 ∨ rest = true then 1 else 0)
def cutHalf (M : Nat) (e q : Int) (rest : Bool) : Nat := if q ≤ e then (if rest then 1 else 0) else hr M (q - e).toNat rest

def up (mode sign : Int) (lo half : Nat) : Bool := decide (mode = 0 ∧ (half = 3 ∨ half = 2 ∧ lo % 2 = 1) ∨ mode = 1 ∧ 2 ≤ half ∨ mode = 3 ∧ 0 < half ∧ sign = 0 ∨ mode = 4 ∧ 0 < half ∧ sign = 1)
def chosen (mode sign : Int) (lo half : Nat) : Nat := lo + (if up mode sign lo half then 1 else 0)

theorem hr_le (M d : Nat) (rest : Bool) : hr M d rest ≤ 3 := by unfold hr; split <;> split <;> omega
theorem cutHalf_le (M : Nat) (e q : Int) (rest : Bool) : cutHalf M e q rest ≤ 3 := by
  unfold cutHalf
  split
  · split <;> omega
  · exact hr_le _ _ _

theorem mod_parts (M d : Nat) (hd : 1 ≤ d) : M % 2 ^ d = M % 2 ^ (d - 1) + 2 ^ (d - 1) * (M / 2 ^ (d - 1) % 2) ∧ M % 2 ^ (d - 1) < 2 ^ (d - 1) ∧ M / 2 ^ (d - 1) % 2 < 2 := by
  refine ⟨?_, Nat.mod_lt _ (Nat.pow_pos (by decide)), Nat.mod_lt _ (by decide)⟩
  obtain ⟨k, rfl⟩ : ∃ k, d = k + 1 := ⟨d - 1, by omega⟩
  rw [Nat.add_sub_cancel, Nat.pow_succ, Nat.mod_mul]

/-- What the model's comparing finds. -/
theorem hr_zero (M d : Nat) (hd : 1 ≤ d) (h : M % 2 ^ d = 0) : hr M d false = 0 := by
  obtain ⟨e, a, b⟩ := mod_parts M d hd
  have p : 0 < 2 ^ (d - 1) := Nat.pow_pos (by decide)
  unfold hr
  generalize 2 ^ (d - 1) = P at *
  have h1 : M / P % 2 = 0 := by
    rcases Nat.eq_zero_or_pos (M / P % 2) with c | c
    · exact c
    · have : 1 ≤ M / P % 2 := c
      have := Nat.mul_le_mul_left P this
      omega
  rw [h1] at e
  rw [if_neg (by omega), if_neg (by simp; omega)]
theorem hr_one (M d : Nat) (rest : Bool) (hd : 1 ≤ d) (h : M % 2 ^ d < 2 ^ (d - 1)) (hn : M % 2 ^ d ≠ 0 ∨ rest = true) : hr M d rest = 1 := by
  obtain ⟨e, a, b⟩ := mod_parts M d hd
  unfold hr
  generalize 2 ^ (d - 1) = P at *
  have h1 : M / P % 2 = 0 := by
    rcases Nat.eq_zero_or_pos (M / P % 2) with c | c
    · exact c
    · have : 1 ≤ M / P % 2 := c
      have := Nat.mul_le_mul_left P this
      omega
  rw [h1] at e
  rw [if_neg (by omega), if_pos]
  rcases hn with hn | hn
  · left; omega
  · right; exact hn
theorem hr_two (M d : Nat) (hd : 1 ≤ d) (h : M % 2 ^ d = 2 ^ (d - 1)) : hr M d false = 2 := by
  obtain ⟨e, a, b⟩ := mod_parts M d hd
  unfold hr
  generalize 2 ^ (d - 1) = P at *
  have h1 : M / P % 2 = 1 := by
    rcases (show M / P % 2 = 0 ∨ M / P % 2 = 1 by omega) with c | c
    · rw [c] at e; omega
    · exact c
  rw [h1] at e
  rw [if_pos h1, if_neg (by simp; omega)]
theorem hr_three (M d : Nat) (rest : Bool) (hd : 1 ≤ d) (h : 2 ^ (d - 1) ≤ M % 2 ^ d) (hn : M % 2 ^ d ≠ 2 ^ (d - 1) ∨ rest = true) : hr M d rest = 3 := by
  obtain ⟨e, a, b⟩ := mod_parts M d hd
  unfold hr
  generalize 2 ^ (d - 1) = P at *
  have h1 : M / P % 2 = 1 := by
    rcases (show M / P % 2 = 0 ∨ M / P % 2 = 1 by omega) with c | c
    · rw [c] at e; omega
    · exact c
  rw [h1] at e
  rw [if_pos h1, if_pos]
  rcases hn with hn | hn
  · left; omega
  · right; exact hn

/-- The model's rounding: the magnitude's word and the flags; 'top' the exponent of the highest bit. -/
def ovMag (inf mode sign : Int) : Int := if mode = 0 ∨ mode = 1 ∨ mode = 3 ∧ sign = 0 ∨ mode = 4 ∧ sign = 1 then inf else inf - 1

def roundR (p mx one inf mode sign : Int) (M : Nat) (e : Int) (rest : Bool) : Int × Int :=
  let top : Int := nb M + e - 1
  if top > mx then (ovMag inf mode sign, 20) else
  let low : Int := (1 - mx) - p - 2
  let M' : Nat := if top < low then 1 else M
  let e' : Int := if top < low then low else e
  let rest' : Bool := if top < low then true else rest
  let top' : Int := if top < low then low else top
  let E : Int := if top' < 1 - mx then 1 - mx else top'
  let q : Int := E - p + 1
  let lo := cutLo M' e' q
  let half := cutHalf M' e' q rest'
  let r := chosen mode sign lo half
  if (nb r : Int) + q - 1 > mx then (ovMag inf mode sign, 20) else
  let q2 := top' - p + 1
  let r2 := chosen mode sign (cutLo M' e' q2) (cutHalf M' e' q2 rest')
  let flags : Int := if 0 < half then (if (nb r2 : Int) + top' - p < 1 - mx then 24 else 16) else 0
  ((r : Int) + (if q > (1 - mx) - p + 1 then one * (q - ((1 - mx) - p + 1)) else 0), flags)
end Go.Proofs.YtmllepdkbggpmaaDoor
