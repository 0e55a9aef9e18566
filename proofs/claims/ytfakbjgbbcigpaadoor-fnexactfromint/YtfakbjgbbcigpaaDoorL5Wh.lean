/- Chapter 5: whole numbers and integers, plain mathematics. -/
import Derived.Test.YtfakbjgbbcigpaaDoorPackBack
import Derived.Test.YtfakbjgbbcigpaaDoorL3OA
set_option linter.unusedVariables false
set_option linter.unusedSimpArgs false
namespace Go.Proofs.YtfakbjgbbcigpaaDoor
open Go.RowKit

/-- The magnitude of a number rounded to a whole number. -/
def wholeM (mode : Int) (x : Opd) : Nat := chosen mode x.s (cutLo x.M x.e 0) (cutHalf x.M x.e 0 false)
/-- Whether that is another number. -/
def wholeX (x : Opd) : Bool := decide (0 < cutHalf x.M x.e 0 false)
/-- A number rounded to a whole number. -/
def wholeO (mode : Int) (x : Opd) : Opd := if x.c = 1 ∧ x.e < 0 then (if wholeM mode x = 0 then ⟨0, x.s, 0, 0⟩ else ⟨1, x.s, 0, wholeM mode x⟩) else x

theorem cutHalf_pos' (M : Nat) (e q : Int) (h : q ≤ e) : cutHalf M e q false = 0 := by unfold cutHalf; rw [if_pos h]; rfl
theorem wholeX_no {x : Opd} (h : 0 ≤ x.e) : wholeX x = false := by unfold wholeX; rw [cutHalf_pos' _ _ _ h]; rfl
theorem wholeM_no {mode : Int} {x : Opd} (h : 0 ≤ x.e) : wholeM mode x = x.M * 2 ^ x.e.toNat := by
  unfold wholeM; rw [cutHalf_pos' _ _ _ h, chosen_zero]; unfold cutLo; rw [if_pos h, Int.sub_zero]
theorem wholeM_lt {mode : Int} {x : Opd} {P : Nat} (h : x.e < 0) (hM : x.M < 2 ^ (P + 1)) : wholeM mode x ≤ 2 ^ P := by
  have h1 := (chosen_le mode x.s (cutLo x.M x.e 0) (cutHalf x.M x.e 0 false)).2
  have h2 : cutLo x.M x.e 0 < 2 ^ P := by
    unfold cutLo
    rw [if_neg (by omega), Nat.div_lt_iff_lt_mul (Nat.pow_pos (by decide)), ← Nat.pow_add]
    have := pow2_mono (show P + 1 ≤ P + (0 - x.e).toNat by omega)
    omega
  unfold wholeM
  omega

/-- Whole numbers of at most p digits are of the format. -/
theorem whole_exact {f p mx one inf sg nan : Int} (h : IsFmt f p mx one inf sg nan) (s : Int) (M : Nat) (h0 : 0 < M) (h1 : (M : Int) ≤ 2 * one) :
    ∃ z, 0 < z ∧ z < inf ∧ ∀ mode, RoundIs p (1 - mx) mx one inf mode s M 0 false z 0 := by
  obtain ⟨P, hP, hP63, hone⟩ := h.pow
  have hone' : one = ((2 ^ P : Nat) : Int) := by rw [cast_pow2]; exact hone
  have hsucc : 2 ^ (P + 1) = 2 * 2 ^ P := by rw [Nat.pow_succ]; omega
  have hb := h.bounds
  have n0 := nb_pos M h0
  have hM1 : M ≤ 2 ^ (P + 1) := by omega
  have hn : nb M ≤ P + 2 := nb_le (by
    rw [show P + 2 = (P + 1) + 1 from rfl, Nat.pow_succ]
    have := Nat.pow_pos (n := P + 1) (show 0 < 2 by decide)
    omega)
  obtain ⟨q, hq⟩ : ∃ q : Int, (nb M : Int) + 0 - 1 - p + 1 = q := ⟨_, rfl⟩
  have hhalf : cutHalf M 0 q false = 0 := by
    by_cases c : q ≤ 0
    · exact cutHalf_pos' _ _ _ c
    · have hq1 : (q - 0).toNat = 1 := by omega
      have hM2 : M = 2 ^ (P + 1) := by
        rcases Nat.lt_or_ge M (2 ^ (P + 1)) with d | d
        · have := nb_le d; omega
        · omega
      unfold cutHalf
      rw [if_neg c, hq1]
      exact hr_zero M 1 (by decide) (by rw [hM2, hsucc]; omega)
  have hlo : cutLo M 0 q < 2 ^ (P + 1) := cutLo_lt M 0 q (P + 1) (by omega)
  have hlo0 : 2 ^ P ≤ cutLo M 0 q := cutLo_ge M 0 q P h0 (by omega)
  refine ⟨(cutLo M 0 q : Nat) + one * ((nb M : Int) + 0 - 1 - (1 - mx)), ?_, ?_, fun mode => ?_⟩
  · have := Int.mul_nonneg (show 0 ≤ one by omega) (show 0 ≤ (nb M : Int) + 0 - 1 - (1 - mx) by omega)
    omega
  · rcases h with ⟨rfl, rfl, rfl, rfl, rfl, rfl, rfl⟩ | ⟨rfl, rfl, rfl, rfl, rfl, rfl, rfl⟩ <;> omega
  · refine ⟨(nb M : Int) + 0 - 1, (nb M : Int) + 0 - 1, cutLo M 0 q, _, 0, rfl, .inr ⟨by omega, rfl⟩, by rw [hq, hhalf], by rw [hq, chosen_zero], rfl, .inr (.inr ⟨by omega, ?_, rfl, .inl ⟨rfl, rfl⟩⟩)⟩
    rcases h with ⟨rfl, rfl, rfl, rfl, rfl, rfl, rfl⟩ | ⟨rfl, rfl, rfl, rfl, rfl, rfl, rfl⟩ <;> omega

/-- The greatest magnitude of a kind with a sign. -/
def mostK (kind s : Int) : Nat :=
  if kind = 0 then (if s = 1 then 2147483648 else 2147483647)
  else if kind = 1 then (if s = 1 then 9223372036854775808 else 9223372036854775807)
  else if kind = 2 then (if s = 1 then 0 else 4294967295)
  else if kind = 3 then (if s = 1 then 0 else 18446744073709551615)
  else 0
/-- The word of an integer. -/
def wordK (s : Int) (M : Nat) : Int := if s = 1 ∧ M ≠ 0 then 18446744073709551616 - (M : Int) else (M : Int)
theorem mostK_lt (kind s : Int) : mostK kind s < 18446744073709551616 := by
  unfold mostK
  repeat' split
  all_goals decide
theorem wordK_lt (s : Int) (M : Nat) (h : M < 18446744073709551616) : 0 ≤ wordK s M ∧ wordK s M < 18446744073709551616 := by unfold wordK; split <;> omega
/-- The integer of a word: its sign and its magnitude. -/
def signK (kind w : Int) : Int := if (kind = 0 ∨ kind = 1) ∧ 9223372036854775808 ≤ w then 1 else 0
def magK (kind w : Int) : Nat := if (kind = 0 ∨ kind = 1) ∧ 9223372036854775808 ≤ w then (18446744073709551616 - w).toNat else w.toNat
theorem signK_01 (kind w : Int) : signK kind w = 0 ∨ signK kind w = 1 := by unfold signK; split <;> simp
theorem magK_lt (kind w : Int) (h0 : 0 ≤ w) (h1 : w < 18446744073709551616) : magK kind w < 18446744073709551616 := by unfold magK; split <;> omega
/-- Whether a word stands for one of its kind. -/
def fitsK (kind w : Int) : Bool := decide ((0 ≤ kind ∧ kind ≤ 3) ∧ magK kind w ≤ mostK kind (signK kind w))
end Go.Proofs.YtfakbjgbbcigpaaDoor
