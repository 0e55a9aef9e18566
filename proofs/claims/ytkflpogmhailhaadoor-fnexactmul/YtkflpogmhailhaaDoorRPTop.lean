/- There is an answer; the rule of a way. -/
import Derived.Test.YtkflpogmhailhaaDoorRPRdW
set_option linter.unusedVariables false
namespace Go.Proofs.YtkflpogmhailhaaDoor
open Go.RowKit

/-- There is an answer. -/
theorem round_is (p mn mx one inf mode sign : Int) (M : Nat) (e : Int) (rest : Bool) : ∃ z fl, RoundIs p mn mx one inf mode sign M e rest z fl := by
  obtain ⟨top, htop⟩ : ∃ top : Int, top = nb M + e - 1 := ⟨_, rfl⟩
  obtain ⟨E, hE⟩ : ∃ E : Int, top < mn ∧ E = mn ∨ mn ≤ top ∧ E = top := by
    by_cases c : top < mn
    · exact ⟨mn, .inl ⟨c, rfl⟩⟩
    · exact ⟨top, .inr ⟨by omega, rfl⟩⟩
  obtain ⟨hf, hhf⟩ : ∃ hf, hf = cutHalf M e (E - p + 1) rest := ⟨_, rfl⟩
  obtain ⟨r, hr⟩ : ∃ r, r = chosen mode sign (cutLo M e (E - p + 1)) hf := ⟨_, rfl⟩
  obtain ⟨r2, hr2⟩ : ∃ r2, r2 = chosen mode sign (cutLo M e (top - p + 1)) (cutHalf M e (top - p + 1) rest) := ⟨_, rfl⟩
  by_cases c1 : mx < top
  · exact ⟨_, _, top, E, r, r2, hf, htop, hE, hhf, hr, hr2, .inl ⟨c1, rfl, rfl⟩⟩
  · by_cases c2 : inf ≤ r + one * (E - mn)
    · exact ⟨_, _, top, E, r, r2, hf, htop, hE, hhf, hr, hr2, .inr (.inl ⟨by omega, c2, rfl, rfl⟩)⟩
    · rcases Nat.eq_zero_or_pos hf with c3 | c3
      · exact ⟨_, _, top, E, r, r2, hf, htop, hE, hhf, hr, hr2, .inr (.inr ⟨by omega, by omega, rfl, .inl ⟨c3, rfl⟩⟩)⟩
      · by_cases c4 : top < mn - 1 ∨ top = mn - 1 ∧ (r2 : Int) < 2 * one
        · exact ⟨_, _, top, E, r, r2, hf, htop, hE, hhf, hr, hr2, .inr (.inr ⟨by omega, by omega, rfl, .inr (.inl ⟨c3, c4, rfl⟩)⟩)⟩
        · exact ⟨_, _, top, E, r, r2, hf, htop, hE, hhf, hr, hr2, .inr (.inr ⟨by omega, by omega, rfl, .inr (.inr ⟨c3, by omega, rfl⟩)⟩)⟩

theorem rule_of (mode : Int) (m0 : 0 ≤ mode) (m1 : mode ≤ 4) : ∃ k, IsRule mode k := by
  unfold IsRule
  rcases (show mode = 0 ∨ mode = 1 ∨ mode = 2 ∨ mode = 3 ∨ mode = 4 by omega) with rfl | rfl | rfl | rfl | rfl
  · exact ⟨_, .inl ⟨rfl, rfl⟩⟩
  · exact ⟨_, .inr (.inl ⟨rfl, rfl⟩)⟩
  · exact ⟨_, .inr (.inr (.inl ⟨rfl, rfl⟩))⟩
  · exact ⟨_, .inr (.inr (.inr (.inl ⟨rfl, rfl⟩)))⟩
  · exact ⟨_, .inr (.inr (.inr (.inr ⟨rfl, rfl⟩)))⟩

theorem sv_sw (sign sg z : Int) : sv sign sg z = sw sign sg z := by unfold sv sw; split <;> omega

end Go.Proofs.YtkflpogmhailhaaDoor
