/- Rounding: bounds, and what both programs answer. -/
import Derived.Test.YtmllepdkbggpmaaDoorRoundMath
set_option linter.unusedVariables false
namespace Go.Proofs.YtmllepdkbggpmaaDoor

theorem pow2_mono {a b : Nat} (h : a ≤ b) : 2 ^ a ≤ 2 ^ b := Nat.pow_le_pow_right (by decide) h

/-- In units of 2^q a magnitude below 2^(q + P) is below 2^P. -/
theorem cutLo_lt (M : Nat) (e q : Int) (P : Nat) (h : (nb M : Int) + e ≤ q + P) : cutLo M e q < 2 ^ P := by
  have hM := nb_lt M
  unfold cutLo
  split
  · rename_i c
    have h1 : M * 2 ^ (e - q).toNat < 2 ^ nb M * 2 ^ (e - q).toNat := Nat.mul_lt_mul_of_pos_right hM (Nat.pow_pos (by decide))
    rw [← Nat.pow_add] at h1
    have h2 := pow2_mono (show nb M + (e - q).toNat ≤ P by omega)
    omega
  · rename_i c
    rw [Nat.div_lt_iff_lt_mul (Nat.pow_pos (by decide)), ← Nat.pow_add]
    have h2 := pow2_mono (show nb M ≤ P + (q - e).toNat by omega)
    omega
/-- And one from 2^(q + P) on is from 2^P on. -/
theorem cutLo_ge (M : Nat) (e q : Int) (P : Nat) (hM0 : 0 < M) (h : q + P ≤ (nb M : Int) + e - 1) : 2 ^ P ≤ cutLo M e q := by
  have hM := nb_ge M hM0
  have hp := nb_pos M hM0
  unfold cutLo
  split
  · rename_i c
    have h1 := Nat.mul_le_mul_right (2 ^ (e - q).toNat) hM
    rw [← Nat.pow_add] at h1
    have h2 := pow2_mono (show P ≤ nb M - 1 + (e - q).toNat by omega)
    omega
  · rename_i c
    rw [Nat.le_div_iff_mul_le (Nat.pow_pos (by decide)), ← Nat.pow_add]
    have h2 := pow2_mono (show P + (q - e).toNat ≤ nb M - 1 by omega)
    omega
theorem chosen_le (mode sign : Int) (lo half : Nat) : lo ≤ chosen mode sign lo half ∧ chosen mode sign lo half ≤ lo + 1 := by
  unfold chosen; split <;> omega

/-- Far below: nothing but a little rest. -/
theorem cut_far (M : Nat) (e q : Int) (rest : Bool) (hM : 0 < M) (h : (nb M : Int) + e ≤ q - 1) : cutLo M e q = 0 ∧ cutHalf M e q rest = 1 := by
  have h1 := nb_lt M
  have hp := nb_pos M hM
  have hq : ¬ q ≤ e := by omega
  obtain ⟨d, hd⟩ : ∃ d : Nat, (q - e).toNat = d + 1 := ⟨(q - e).toNat - 1, by omega⟩
  have h2 := pow2_mono (show nb M ≤ d by omega)
  have h3 := pow2_mono (show d ≤ d + 1 by omega)
  refine ⟨?_, ?_⟩
  · unfold cutLo
    rw [if_neg hq, hd]
    exact Nat.div_eq_of_lt (by omega)
  · unfold cutHalf hr
    have hne : M ≠ 0 := by omega
    rw [if_neg hq, hd, Nat.add_sub_cancel, Nat.div_eq_of_lt (by omega), Nat.mod_eq_of_lt (show M < 2 ^ d by omega)]
    rw [if_neg (by decide), if_pos (Or.inl hne)]

/-- What RoundPack answers for a number that is not 0: its magnitude's word z and the flags fl. -/
def RoundIs (p mn mx one inf mode sign : Int) (M : Nat) (e : Int) (rest : Bool) (z fl : Int) : Prop :=
  ∃ (top E : Int) (r r2 : Nat) (hf : Nat), top = nb M + e - 1 ∧ (top < mn ∧ E = mn ∨ mn ≤ top ∧ E = top) ∧
    hf = cutHalf M e (E - p + 1) rest ∧ r = chosen mode sign (cutLo M e (E - p + 1)) hf ∧ r2 = chosen mode sign (cutLo M e (top - p + 1)) (cutHalf M e (top - p + 1) rest) ∧
    (mx < top ∧ z = ovMag inf mode sign ∧ fl = 20 ∨
     top ≤ mx ∧ inf ≤ r + one * (E - mn) ∧ z = ovMag inf mode sign ∧ fl = 20 ∨
     top ≤ mx ∧ r + one * (E - mn) < inf ∧ z = r + one * (E - mn) ∧ (hf = 0 ∧ fl = 0 ∨ 0 < hf ∧ (top < mn - 1 ∨ top = mn - 1 ∧ (r2 : Int) < 2 * one) ∧ fl = 24 ∨ 0 < hf ∧ (mn ≤ top ∨ top = mn - 1 ∧ 2 * one ≤ (r2 : Int)) ∧ fl = 16))

theorem RoundIs.one {p mn mx one inf mode sign : Int} {M : Nat} {e : Int} {rest : Bool} {z fl z' fl' : Int} (h : RoundIs p mn mx one inf mode sign M e rest z fl) (h' : RoundIs p mn mx one inf mode sign M e rest z' fl') : z = z' ∧ fl = fl' := by
  obtain ⟨top, E, r, r2, hf, h1, h2, h3, h4, h5, hc⟩ := h
  obtain ⟨top', E', r', r2', hf', h1', h2', h3', h4', h5', hc'⟩ := h'
  have e1 : top = top' := by omega
  subst e1
  have e2 : E = E' := by omega
  subst e2
  have e3 : hf = hf' := by rw [h3, h3']
  subst e3
  have e4 : r = r' := by rw [h4, h4']
  subst e4
  have e5 : r2 = r2' := by rw [h5, h5']
  subst e5
  generalize one * (E - mn) = Y at *
  generalize ovMag inf mode sign = O at *
  rcases hc with ⟨a, rfl, rfl⟩ | ⟨a, b, rfl, rfl⟩ | ⟨a, b, rfl, c⟩
  · rcases hc' with ⟨a', rfl, rfl⟩ | ⟨a', b', rfl, rfl⟩ | ⟨a', b', rfl, c'⟩
    · exact ⟨rfl, rfl⟩
    · omega
    · omega
  · rcases hc' with ⟨a', rfl, rfl⟩ | ⟨a', b', rfl, rfl⟩ | ⟨a', b', rfl, c'⟩
    · omega
    · exact ⟨rfl, rfl⟩
    · omega
  · rcases hc' with ⟨a', rfl, rfl⟩ | ⟨a', b', rfl, rfl⟩ | ⟨a', b', rfl, c'⟩
    · omega
    · omega
    · refine ⟨rfl, ?_⟩
      omega
end Go.Proofs.YtmllepdkbggpmaaDoor
