/- Plain facts of FnWords. -/
import Derived.Test.YtmcbciaeibfgpaaZerosI
import Derived.Test.YtmcbciaeibfgpaaShiftLI
import Derived.Test.YtmcbciaeibfgpaaMinus
set_option linter.unusedVariables false
set_option linter.unusedSimpArgs false
namespace Go.Proofs.Ytmcbciaeibfgpaa
open Go.RowKit

theorem back_all (ah al bh bl S1 S0 : Int) (OV : Bool) (ha0 : 0 ≤ ah) (ha1 : ah < 18446744073709551616) (hb0 : 0 ≤ al) (hb1 : al < 18446744073709551616) (hc0 : 0 ≤ bh) (hc1 : bh < 18446744073709551616) (hd0 : 0 ≤ bl) (hd1 : bl < 18446744073709551616)
    (e1 : S1 = (ah + bh + (al + bl) / 18446744073709551616) % 18446744073709551616) (e0 : S0 = (al + bl) % 18446744073709551616) (eo : OV = ((ah + bh + (al + bl) / 18446744073709551616) / 18446744073709551616 != 0)) :
    (S1 - bh - bor S0 bl) % 18446744073709551616 = ah ∧ (S0 - bl) % 18446744073709551616 = al ∧ lt2 S1 S0 bh bl = OV := by
  refine ⟨?_, ?_, ?_⟩
  · rw [e1, e0]; unfold bor; split <;> omega
  · rw [e0]; omega
  · rw [lt2_iff _ _ _ _ (by omega) hd0 (by omega) hd1, eo, e1, e0, Bool.eq_iff_iff]
    simp only [decide_eq_true_eq, bne_iff_ne, ne_eq]
    omega

theorem bitLen_up (n : Nat) (h : n < 2 ^ 64) : n < 2 ^ Go.Lib.bitLen n := by
  have hL := Go.Lib.bitLen_le n 64 (by omega) h
  generalize hLe : Go.Lib.bitLen n = L at *
  rcases Nat.lt_or_ge n (2 ^ L) with c | c
  · exact c
  · have e := Go.Lib.bitLen_shift L n c h
    have hz : n / 2 ^ L ≠ 0 := by
      have : 1 ≤ n / 2 ^ L := (Nat.le_div_iff_mul_le (Nat.pow_pos (by decide))).mpr (by omega)
      omega
    have e2 := Go.Lib.bitLen_half (n / 2 ^ L) hz (by have := Nat.div_le_self n (2 ^ L); omega)
    omega

theorem bl_up (V : Int) (h0 : 0 ≤ V) (h1 : V < 340282366920938463463374607431768211456) : V < 2 ^ (bl V).toNat := by
  unfold bl
  split
  · rename_i c
    have := bitLen_up (V % 18446744073709551616).toNat (by simp only [Nat.reducePow]; omega)
    have e : ((Go.Lib.bitLen (V % 18446744073709551616).toNat : Int)).toNat = Go.Lib.bitLen (V % 18446744073709551616).toNat := by omega
    rw [e]
    have c2 : (2 : Int) ^ Go.Lib.bitLen (V % 18446744073709551616).toNat = ((2 ^ Go.Lib.bitLen (V % 18446744073709551616).toNat : Nat) : Int) := by push_cast; rfl
    rw [c2]; omega
  · have := bitLen_up (V / 18446744073709551616).toNat (by simp only [Nat.reducePow]; omega)
    generalize hB : Go.Lib.bitLen (V / 18446744073709551616).toNat = B at *
    have e : ((64 + (B : Int))).toNat = 64 + B := by omega
    rw [e]
    have c3 : (2 : Int) ^ B = ((2 ^ B : Nat) : Int) := by push_cast; rfl
    rw [Int.pow_add, c3, show (2 : Int) ^ 64 = 18446744073709551616 from rfl]
    generalize 2 ^ B = P at *
    omega

/-- Shifted to the top and back: the number, and nothing is lost. -/
theorem top_back (h l : Int) (k : Nat) (hk : k = (bnd (zer h l)).toNat) (h0 : 0 ≤ h) (l0 : 0 ≤ l) (h1 : h < 18446744073709551616) (l1 : l < 18446744073709551616) :
    (0 ≤ shlHi h l k ∧ shlHi h l k < 18446744073709551616 ∧ 0 ≤ shlLo h l k ∧ shlLo h l k < 18446744073709551616) ∧
    shrHi (shlHi h l k) (shlLo h l k) k = h ∧ shrLo (shlHi h l k) (shlLo h l k) k = l ∧ shrLost (shlHi h l k) (shlLo h l k) k = false := by
  have hz := bl_zer h l h0 l0 h1 l1
  have hV0 : 0 ≤ h * 18446744073709551616 + l := by omega
  have hV1 : h * 18446744073709551616 + l < 340282366920938463463374607431768211456 := by omega
  have hup := bl_up _ hV0 hV1
  have hle := bl_le _ hV0 hV1
  have hge := bl_nonneg (h * 18446744073709551616 + l)
  have hkk : (k : Int) = 128 - bl (h * 18446744073709551616 + l) := by
    rw [hk, hz]; unfold bnd; (repeat' split) <;> omega
  have hT : (h * 18446744073709551616 + l) * 2 ^ k < 340282366920938463463374607431768211456 := by
    have e : (2 : Int) ^ (bl (h * 18446744073709551616 + l)).toNat * 2 ^ k = 340282366920938463463374607431768211456 := by
      rw [← Int.pow_add, show (bl (h * 18446744073709551616 + l)).toNat + k = 128 by omega]; rfl
    have := Int.mul_lt_mul_of_pos_right hup (show (0 : Int) < 2 ^ k from Int.pow_pos (by decide))
    rw [e] at this
    exact this
  have hT0 : 0 ≤ (h * 18446744073709551616 + l) * 2 ^ k := Int.mul_nonneg hV0 (Int.pow_nonneg (by decide))
  have hp : (0 : Int) < 2 ^ k := Int.pow_pos (by decide)
  have d1 : (h * 18446744073709551616 + l) * 2 ^ k / 2 ^ k = h * 18446744073709551616 + l := Int.mul_ediv_cancel _ (by omega)
  have d2 : (h * 18446744073709551616 + l) * 2 ^ k % 2 ^ k = 0 := Int.mul_emod_left _ _
  unfold shlHi shlLo shrHi shrLo shrLost
  have em : (h * 18446744073709551616 + l) * 2 ^ k % 340282366920938463463374607431768211456 = (h * 18446744073709551616 + l) * 2 ^ k := Int.emod_eq_of_lt hT0 hT
  rw [em]
  have ej : (h * 18446744073709551616 + l) * 2 ^ k / 18446744073709551616 * 18446744073709551616 + (h * 18446744073709551616 + l) * 2 ^ k % 18446744073709551616 = (h * 18446744073709551616 + l) * 2 ^ k := by omega
  rw [ej, d1, d2]
  refine ⟨?_, ?_, ?_, ?_⟩
  · generalize (h * 18446744073709551616 + l) * 2 ^ k = T at *
    omega
  · omega
  · omega
  · simp

/-- Quotient, divisor and rest, put together again. -/
theorem again_all (V d q r : Int) (hV0 : 0 ≤ V) (hV1 : V < 340282366920938463463374607431768211456) (hd : 0 < d) (hq : q = V / d) (hr : r = V % d) (P1 P0 : Int) (hP1 : P1 = q * d / 18446744073709551616) (hP0 : P0 = q * d % 18446744073709551616) (r0 : 0 ≤ r) (hr1 : r < 18446744073709551616) :
    (P1 + 0 + (P0 + r) / 18446744073709551616) % 18446744073709551616 = V / 18446744073709551616 ∧ (P0 + r) % 18446744073709551616 = V % 18446744073709551616 ∧ ((P1 + 0 + (P0 + r) / 18446744073709551616) / 18446744073709551616 != 0) = false := by
  have e : q * d + r = V := by rw [hq, hr]; exact Int.ediv_mul_add_emod V d
  rw [hP1, hP0]
  generalize q * d = p at *
  refine ⟨by omega, by omega, ?_⟩
  simp only [bne_eq_false_iff_eq]
  omega
end Go.Proofs.Ytmcbciaeibfgpaa
