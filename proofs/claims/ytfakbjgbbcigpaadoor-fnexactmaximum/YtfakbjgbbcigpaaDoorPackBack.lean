/- RoundIs of what Unpack gives is the word again. -/
import Derived.Test.YtfakbjgbbcigpaaDoorL2B
set_option linter.unusedVariables false
set_option linter.unusedSimpArgs false
namespace Go.Proofs.YtfakbjgbbcigpaaDoor
open Go.RowKit

theorem chosen_zero (mode sign : Int) (lo : Nat) : chosen mode sign lo 0 = lo := by
  unfold chosen up
  rw [if_neg (by simp)]; rfl

theorem cast_pow2 (k : Nat) : ((2 ^ k : Nat) : Int) = (2 : Int) ^ k := by push_cast; rfl

theorem back_is {f p mx one inf sg nan : Int} (h : IsFmt f p mx one inf sg nan) (mode sign v e g : Int) (v0 : 0 < v) (v1 : v < inf) (hn : NormIs p mx one v e g) :
    0 < g ∧ g < 18446744073709551616 ∧ -2000 ≤ e ∧ e ≤ 2000 ∧ RoundIs p (1 - mx) mx one inf mode sign g.toNat e false v 0 := by
  obtain ⟨b1, b2, b3, b4, b5, b6, b7, b8, b9, b10, b11, b12⟩ := h.bounds
  obtain ⟨P, hP, hP63, hone⟩ := h.pow
  have hone' : one = ((2 ^ P : Nat) : Int) := by rw [cast_pow2]; exact hone
  have hinf : inf = one * (2 * mx + 1) := by rcases h with ⟨rfl, rfl, rfl, rfl, rfl, rfl, rfl⟩ | ⟨rfl, rfl, rfl, rfl, rfl, rfl, rfl⟩ <;> decide
  have hsucc : 2 ^ (P + 1) = 2 * 2 ^ P := by rw [Nat.pow_succ]; omega
  obtain ⟨k, m, e0, hm, hg, he, g1, g2⟩ := hn
  obtain ⟨G, rfl⟩ := Int.eq_ofNat_of_zero_le (show 0 ≤ g by omega)
  have hnb : nb G = P + 1 := by
    have a1 := nb_gt (N := G) (k := P) (by omega)
    have a2 := nb_le (N := G) (k := P + 1) (by omega)
    omega
  rw [Int.toNat_natCast]
  rcases hm with ⟨hv, rfl, rfl⟩ | ⟨hv, rfl, rfl⟩
  · obtain ⟨V, rfl⟩ := Int.eq_ofNat_of_zero_le (show 0 ≤ m by omega)
    have hG : G = V * 2 ^ k := by
      have : (G : Int) = ((V * 2 ^ k : Nat) : Int) := by rw [hg, Int.natCast_mul, cast_pow2]
      omega
    have hk1 : 1 ≤ k := by
      rcases Nat.eq_zero_or_pos k with c | c
      · subst c; rw [Nat.pow_zero, Nat.mul_one] at hG; omega
      · exact c
    have hk2 : k ≤ P := by
      have hVp : 1 ≤ V := by omega
      have : 2 ^ k ≤ G := by rw [hG]; exact Nat.le_mul_of_pos_left _ hVp
      have := nb_gt this
      omega
    refine ⟨by omega, by omega, by omega, by omega, ?_⟩
    have hq : ¬ (1 - mx - p + 1 ≤ e) := by omega
    have hqe : (1 - mx - p + 1 - e).toNat = k := by omega
    have hp2 : 0 < 2 ^ k := Nat.pow_pos (by decide)
    have hlo : cutLo G e (1 - mx - p + 1) = V := by unfold cutLo; rw [if_neg hq, hqe, hG, Nat.mul_div_cancel _ hp2]
    have hha : cutHalf G e (1 - mx - p + 1) false = 0 := by unfold cutHalf; rw [if_neg hq, hqe]; exact hr_zero G k hk1 (by rw [hG, Nat.mul_mod_left])
    refine ⟨nb G + e - 1, 1 - mx, V, _, 0, rfl, .inl ⟨by omega, rfl⟩, hha.symm, by rw [hlo, chosen_zero], rfl, .inr (.inr ⟨by omega, ?_, ?_, .inl ⟨rfl, rfl⟩⟩)⟩
    · rw [Int.sub_self, Int.mul_zero]; omega
    · rw [Int.sub_self, Int.mul_zero]; omega
  · have hr0 := Int.emod_nonneg v (show one ≠ 0 by omega)
    have hr1 := Int.emod_lt_of_pos v (show 0 < one by omega)
    have hdm := Int.ediv_mul_add_emod v one
    have hk : k = 0 := by
      rcases Nat.eq_zero_or_pos k with c | c
      · exact c
      · obtain ⟨j, rfl⟩ : ∃ j, k = j + 1 := ⟨k - 1, by omega⟩
        have h2 : (1 : Int) ≤ 2 ^ j := by have : (0 : Int) < 2 ^ j := Int.pow_pos (by decide); omega
        have := Int.mul_le_mul_of_nonneg_left h2 (show 0 ≤ (v % one + one) * 2 by omega)
        rw [Int.pow_succ, Int.mul_comm ((2 : Int) ^ j) 2, ← Int.mul_assoc] at hg
        omega
    subst hk
    rw [Int.pow_zero, Int.mul_one] at hg
    have hq1 : 1 ≤ v / one := by
      have := Int.le_ediv_of_mul_le (show 0 < one by omega) (show 1 * one ≤ v by omega)
      omega
    have hq2 : v / one < 2 * mx + 1 := Int.ediv_lt_of_lt_mul (by omega) (by rw [Int.mul_comm]; omega)
    refine ⟨by omega, by omega, by omega, by omega, ?_⟩
    have htop : (nb G : Int) + e - 1 = v / one - mx := by omega
    have hqe : (nb G : Int) + e - 1 - p + 1 = e := by omega
    have hlo : cutLo G e e = G := by unfold cutLo; rw [if_pos (Int.le_refl e)]; simp
    have hha : cutHalf G e e false = 0 := by unfold cutHalf; rw [if_pos (Int.le_refl e)]; rfl
    have hz : (G : Int) + one * (nb G + e - 1 - (1 - mx)) = v := by
      rw [htop, show v / one - mx - (1 - mx) = v / one - 1 by omega, Int.mul_sub, Int.mul_one, Int.mul_comm one (v / one)]
      omega
    refine ⟨nb G + e - 1, nb G + e - 1, G, G, 0, rfl, .inr ⟨by omega, rfl⟩, by rw [hqe, hha], by rw [hqe, hlo, chosen_zero], by rw [hqe, hlo, hha, chosen_zero], .inr (.inr ⟨by omega, ?_, ?_, .inl ⟨rfl, rfl⟩⟩)⟩
    · rw [hz]; exact v1
    · rw [hz]
end Go.Proofs.YtfakbjgbbcigpaaDoor
