/- Plain arithmetic of shifts of numbers of two words. Nothing of the dump. -/
import Derived.WalkKit
import Derived.Laws.Bits64b
import Derived.Laws.BitsAllLaws
namespace Go.Proofs.Ytmcbciaeibfgpaa
open Go.RowKit

def shlHi (h l : Int) (k : Nat) : Int := (h * 18446744073709551616 + l) * 2 ^ k % 340282366920938463463374607431768211456 / 18446744073709551616
def shlLo (h l : Int) (k : Nat) : Int := (h * 18446744073709551616 + l) * 2 ^ k % 340282366920938463463374607431768211456 % 18446744073709551616
def shrHi (h l : Int) (k : Nat) : Int := (h * 18446744073709551616 + l) / 2 ^ k / 18446744073709551616
def shrLo (h l : Int) (k : Nat) : Int := (h * 18446744073709551616 + l) / 2 ^ k % 18446744073709551616
def shrLost (h l : Int) (k : Nat) : Bool := decide (¬ (h * 18446744073709551616 + l) % 2 ^ k = 0)

namespace Sh
theorem split (k : Nat) (h : k ≤ 64) : 2 ^ k * 2 ^ (64 - k) = 18446744073709551616 := by
  rw [← Nat.pow_add, show k + (64 - k) = 64 by omega]
theorem pos (k : Nat) : 0 < 2 ^ k := Nat.pow_pos (by decide)

/-- The left shift by less than a word. -/
theorem left_nat (A0 A1 P Q : Nat) (hPQ : P * Q = 18446744073709551616) (hP : 0 < P) (h0 : A0 < 18446744073709551616) :
    A1 * P % 18446744073709551616 = P * (A1 % Q) ∧ A0 / Q < P ∧ A1 * P % 18446744073709551616 + A0 / Q < 18446744073709551616 ∧
    (A1 * 18446744073709551616 + A0) * P % 340282366920938463463374607431768211456 / 18446744073709551616 = A1 * P % 18446744073709551616 + A0 / Q ∧
    (A1 * 18446744073709551616 + A0) * P % 340282366920938463463374607431768211456 % 18446744073709551616 = A0 * P % 18446744073709551616 := by
  have hQ : 0 < Q := by
    rcases Nat.eq_zero_or_pos Q with h | h
    · rw [h] at hPQ; omega
    · exact h
  have e1 : A1 * P % 18446744073709551616 = P * (A1 % Q) := by
    have := Nat.mul_mod_mul_left P A1 Q
    rw [hPQ] at this
    rw [Nat.mul_comm A1 P, this]
  have e2 : A0 * P / 18446744073709551616 = A0 / Q := by
    have := Nat.mul_div_mul_left A0 Q hP
    rw [hPQ] at this
    rw [Nat.mul_comm A0 P, this]
  have e3 : A0 / Q < P := by
    apply Nat.div_lt_of_lt_mul
    rw [Nat.mul_comm]; omega
  have e4 : P * (A1 % Q) + P ≤ 18446744073709551616 := by
    have : A1 % Q + 1 ≤ Q := Nat.mod_lt _ hQ
    have := Nat.mul_le_mul_left P this
    rw [hPQ, Nat.mul_add, Nat.mul_one] at this
    exact this
  have e5 : (A1 * 18446744073709551616 + A0) * P = A1 * P * 18446744073709551616 + A0 * P := by
    rw [Nat.add_mul, Nat.mul_right_comm]
  rw [e5]
  refine ⟨e1, e3, by omega, ?_, ?_⟩
  · generalize A1 * P = U at *
    generalize A0 * P = T at *
    generalize A0 / Q = D at *
    generalize P * (A1 % Q) = C at *
    omega
  · generalize A1 * P = U at *
    generalize A0 * P = T at *
    omega

theorem lw (A0 A1 P K : Nat) : (A1 * K + A0) * (K * P) = A1 * P * (K * K) + A0 * P * K := by
  rw [Nat.add_mul]; simp only [Nat.mul_comm, Nat.mul_left_comm]
/-- The left shift by a word or more. -/
theorem leftw_nat (A0 A1 P : Nat) :
    (A1 * 18446744073709551616 + A0) * (18446744073709551616 * P) % 340282366920938463463374607431768211456 / 18446744073709551616 = A0 * P % 18446744073709551616 ∧
    (A1 * 18446744073709551616 + A0) * (18446744073709551616 * P) % 340282366920938463463374607431768211456 % 18446744073709551616 = 0 := by
  have e5 := lw A0 A1 P 18446744073709551616
  rw [e5]
  generalize A1 * P = U at *
  generalize A0 * P = T at *
  omega

/-- The right shift by less than a word. -/
theorem right_nat (A0 A1 P Q : Nat) (hPQ : P * Q = 18446744073709551616) (hP : 0 < P) (h0 : A0 < 18446744073709551616) :
    A1 * Q % 18446744073709551616 = Q * (A1 % P) ∧ A0 / P < Q ∧ A1 * Q % 18446744073709551616 + A0 / P < 18446744073709551616 ∧
    (A1 * 18446744073709551616 + A0) / P / 18446744073709551616 = A1 / P ∧
    (A1 * 18446744073709551616 + A0) / P % 18446744073709551616 = A1 * Q % 18446744073709551616 + A0 / P := by
  have hQ : 0 < Q := by
    rcases Nat.eq_zero_or_pos Q with h | h
    · rw [h] at hPQ; omega
    · exact h
  have hQP : Q * P = 18446744073709551616 := by rw [Nat.mul_comm]; exact hPQ
  have e1 : A1 * Q % 18446744073709551616 = Q * (A1 % P) := by
    have := Nat.mul_mod_mul_left Q A1 P
    rw [hQP] at this
    rw [Nat.mul_comm A1 Q, this]
  have e2 : A1 * Q / 18446744073709551616 = A1 / P := by
    have := Nat.mul_div_mul_left A1 P hQ
    rw [hQP] at this
    rw [Nat.mul_comm A1 Q, this]
  have e3 : A0 / P < Q := by
    apply Nat.div_lt_of_lt_mul
    omega
  have e4 : Q * (A1 % P) + Q ≤ 18446744073709551616 := by
    have : A1 % P + 1 ≤ P := Nat.mod_lt _ hP
    have := Nat.mul_le_mul_left Q this
    rw [hQP, Nat.mul_add, Nat.mul_one] at this
    exact this
  have e5 : (A1 * 18446744073709551616 + A0) / P = A1 * Q + A0 / P := by
    have : A1 * 18446744073709551616 = P * (A1 * Q) := by rw [← hPQ, Nat.mul_left_comm]
    rw [this, Nat.mul_add_div hP]
  rw [e5]
  refine ⟨e1, e3, by omega, ?_, ?_⟩
  · generalize A1 * Q = U at *
    generalize A0 / P = D at *
    generalize A1 / P = E at *
    generalize Q * (A1 % P) = C at *
    omega
  · generalize A1 * Q = U at *
    generalize A0 / P = D at *
    generalize Q * (A1 % P) = C at *
    omega

/-- Disjoint bits: 'or' is the sum. -/
theorem or_add (k : Nat) (c d : Nat) (h : d < 2 ^ k) : (2 ^ k * c) ||| d = 2 ^ k * c + d := (Nat.two_pow_add_eq_or_of_lt h c).symm
end Sh

theorem shl_lo_lo (a0 a1 : Int) (k : Nat) (h1 : k < 64) (ha0 : 0 ≤ a0) (ha1 : 0 ≤ a1) (ga0 : a0 < 18446744073709551616) (ga1 : a1 < 18446744073709551616) :
    IntKind.u64.wrap (a0 * 2 ^ k) = shlLo a1 a0 k ∧ bits .or .u64 (IntKind.u64.wrap (a1 * 2 ^ k)) (a0 / 2 ^ (64 - k)) = shlHi a1 a0 k := by
  obtain ⟨A0, rfl⟩ := Int.eq_ofNat_of_zero_le ha0
  obtain ⟨A1, rfl⟩ := Int.eq_ofNat_of_zero_le ha1
  have hPQ := Sh.split k (by omega)
  obtain ⟨f1, f2, f3, f4, f5⟩ := Sh.left_nat A0 A1 (2 ^ k) (2 ^ (64 - k)) hPQ (Sh.pos k) (by omega)
  have c0 : (A0 : Int) * 2 ^ k = ((A0 * 2 ^ k : Nat) : Int) := by push_cast; rfl
  have c1 : (A1 : Int) * 2 ^ k = ((A1 * 2 ^ k : Nat) : Int) := by push_cast; rfl
  have c2 : (A0 : Int) / 2 ^ (64 - k) = ((A0 / 2 ^ (64 - k) : Nat) : Int) := by push_cast; rfl
  have c3 : ((A1 : Int) * 18446744073709551616 + A0) * 2 ^ k = (((A1 * 18446744073709551616 + A0) * 2 ^ k : Nat) : Int) := by rw [show (A1 : Int) * 18446744073709551616 + A0 = ((A1 * 18446744073709551616 + A0 : Nat) : Int) by omega]; generalize A1 * 18446744073709551616 + A0 = V; push_cast; rfl
  unfold shlLo shlHi
  rw [c0, c1, c2, c3, IntKind.wrap_u64, IntKind.wrap_u64]
  constructor
  · have : ((A0 * 2 ^ k : Nat) : Int) % 18446744073709551616 = ((A0 * 2 ^ k % 18446744073709551616 : Nat) : Int) := by omega
    rw [this, ← f5]; omega
  · have : ((A1 * 2 ^ k : Nat) : Int) % 18446744073709551616 = ((A1 * 2 ^ k % 18446744073709551616 : Nat) : Int) := by omega
    rw [this, bits_or_u64_nat _ _ (by omega) (by omega), f1, Sh.or_add k _ _ f2, ← f1, ← f4]; omega

theorem shl_hi_hi (a0 a1 : Int) (j k : Nat) (hk : k = 64 + j) (ha0 : 0 ≤ a0) (ha1 : 0 ≤ a1) :
    IntKind.u64.wrap (a0 * 2 ^ j) = shlHi a1 a0 k ∧ 0 = shlLo a1 a0 k := by
  obtain ⟨A0, rfl⟩ := Int.eq_ofNat_of_zero_le ha0
  obtain ⟨A1, rfl⟩ := Int.eq_ofNat_of_zero_le ha1
  have e : 2 ^ k = 18446744073709551616 * 2 ^ j := by rw [hk, Nat.pow_add]
  obtain ⟨f1, f2⟩ := Sh.leftw_nat A0 A1 (2 ^ j)
  have c0 : (A0 : Int) * 2 ^ j = ((A0 * 2 ^ j : Nat) : Int) := by push_cast; rfl
  have c3 : ((A1 : Int) * 18446744073709551616 + A0) * 2 ^ k = (((A1 * 18446744073709551616 + A0) * 2 ^ k : Nat) : Int) := by rw [show (A1 : Int) * 18446744073709551616 + A0 = ((A1 * 18446744073709551616 + A0 : Nat) : Int) by omega]; generalize A1 * 18446744073709551616 + A0 = V; push_cast; rfl
  unfold shlLo shlHi
  rw [c0, c3, IntKind.wrap_u64, e]
  omega

theorem shr_lo_lo (a0 a1 : Int) (k : Nat) (h1 : k < 64) (ha0 : 0 ≤ a0) (ha1 : 0 ≤ a1) (ga0 : a0 < 18446744073709551616) (ga1 : a1 < 18446744073709551616) :
    bits .or .u64 (a0 / 2 ^ k) (IntKind.u64.wrap (a1 * 2 ^ (64 - k))) = shrLo a1 a0 k ∧ a1 / 2 ^ k = shrHi a1 a0 k := by
  obtain ⟨A0, rfl⟩ := Int.eq_ofNat_of_zero_le ha0
  obtain ⟨A1, rfl⟩ := Int.eq_ofNat_of_zero_le ha1
  have hPQ := Sh.split k (by omega)
  obtain ⟨f1, f2, f3, f4, f5⟩ := Sh.right_nat A0 A1 (2 ^ k) (2 ^ (64 - k)) hPQ (Sh.pos k) (by omega)
  have c0 : (A0 : Int) / 2 ^ k = ((A0 / 2 ^ k : Nat) : Int) := by push_cast; rfl
  have c1 : (A1 : Int) * 2 ^ (64 - k) = ((A1 * 2 ^ (64 - k) : Nat) : Int) := by push_cast; rfl
  have c2 : (A1 : Int) / 2 ^ k = ((A1 / 2 ^ k : Nat) : Int) := by push_cast; rfl
  have c3 : ((A1 : Int) * 18446744073709551616 + A0) / 2 ^ k = (((A1 * 18446744073709551616 + A0) / 2 ^ k : Nat) : Int) := by rw [show (A1 : Int) * 18446744073709551616 + A0 = ((A1 * 18446744073709551616 + A0 : Nat) : Int) by omega]; generalize A1 * 18446744073709551616 + A0 = V; push_cast; rfl
  unfold shrLo shrHi
  rw [c0, c1, c2, c3, IntKind.wrap_u64]
  constructor
  · have : ((A1 * 2 ^ (64 - k) : Nat) : Int) % 18446744073709551616 = ((A1 * 2 ^ (64 - k) % 18446744073709551616 : Nat) : Int) := by omega
    rw [this, bits_or_u64_nat _ _ (by omega) (by omega), Nat.or_comm, f1, Sh.or_add _ _ _ f2, ← f1, ← f5]; omega
  · rw [← f4]; omega

theorem shr_hi_hi (a0 a1 : Int) (j k : Nat) (hk : k = 64 + j) (ha0 : 0 ≤ a0) (ha1 : 0 ≤ a1) (ga0 : a0 < 18446744073709551616) (ga1 : a1 < 18446744073709551616) :
    a1 / 2 ^ j = shrLo a1 a0 k ∧ 0 = shrHi a1 a0 k := by
  obtain ⟨A0, rfl⟩ := Int.eq_ofNat_of_zero_le ha0
  obtain ⟨A1, rfl⟩ := Int.eq_ofNat_of_zero_le ha1
  have e : 2 ^ k = 18446744073709551616 * 2 ^ j := by rw [hk, Nat.pow_add]
  have c2 : (A1 : Int) / 2 ^ j = ((A1 / 2 ^ j : Nat) : Int) := by push_cast; rfl
  have c3 : ((A1 : Int) * 18446744073709551616 + A0) / 2 ^ k = (((A1 * 18446744073709551616 + A0) / 2 ^ k : Nat) : Int) := by rw [show (A1 : Int) * 18446744073709551616 + A0 = ((A1 * 18446744073709551616 + A0 : Nat) : Int) by omega]; generalize A1 * 18446744073709551616 + A0 = V; push_cast; rfl
  unfold shrLo shrHi
  rw [c2, c3, e, ← Nat.div_div_eq_div_mul]
  have e1 : (A1 * 18446744073709551616 + A0) / 18446744073709551616 = A1 := by omega
  rw [e1]
  have := Nat.div_le_self A1 (2 ^ j)
  generalize A1 / 2 ^ j = D at *
  omega

/-- One step more of the left shift. -/
theorem shl_step (h l : Int) (k : Nat) : (h * 18446744073709551616 + l) * 2 ^ (k + 1) % 340282366920938463463374607431768211456 = 2 * ((h * 18446744073709551616 + l) * 2 ^ k % 340282366920938463463374607431768211456) % 340282366920938463463374607431768211456 := by
  rw [Int.pow_succ, ← Int.mul_assoc]
  generalize (h * 18446744073709551616 + l) * 2 ^ k = T
  omega
theorem shr_step (h l : Int) (k : Nat) : (h * 18446744073709551616 + l) / 2 ^ (k + 1) = (h * 18446744073709551616 + l) / 2 ^ k / 2 := by
  rw [Int.pow_succ, Int.ediv_ediv_of_nonneg (Int.pow_nonneg (by decide))]
end Go.Proofs.Ytmcbciaeibfgpaa
