/- Plain arithmetic of shifts of numbers of two words. Nothing of the dump. -/
import Derived.WalkKit
import Derived.Laws.Bits64b
import Derived.Laws.BitsAllLaws
import Derived.Test.YtkflpogmhailhaaGreatDoorA1
import Derived.Test.YtkflpogmhailhaaGreatDoorRows
import Derived.Test.YtkflpogmhailhaaGreatDoorA2
import Derived.WalkLawsBesides
import Derived.Deep.DeepCutAuto
import Derived.Deep.RegionHeld3
namespace Go.Proofs.YtkflpogmhailhaaGreatDoor
open Go.RowKit

def shlHi (h l : Int) (k : Nat) : Int := (h * 18446744073709551616 + l) * 2 ^ k % 340282366920938463463374607431768211456 / 18446744073709551616
def shlLo (h l : Int) (k : Nat) : Int := (h * 18446744073709551616 + l) * 2 ^ k % 340282366920938463463374607431768211456 % 18446744073709551616
def shrHi (h l : Int) (k : Nat) : Int := (h * 18446744073709551616 + l) / 2 ^ k / 18446744073709551616
def shrLo (h l : Int) (k : Nat) : Int := (h * 18446744073709551616 + l) / 2 ^ k % 18446744073709551616
def shrLost (h l : Int) (k : Nat) : Bool := decide (¬ (h * 18446744073709551616 + l) % 2 ^ k = 0)

namespace Sh
theorem split (k : Nat) (h : k ≤ 64) : 2 ^ k * 2 ^ (64 - k) = 18446744073709551616 := by
  rw [← Nat.pow_add, show k + (64 - k) = 64 by omega]
theorem pos (k : Nat) : 0 < 2 ^ k := Nat.pow_pos (by decide)

/-- The left shift by less than a word. -/
theorem left_nat (A0 A1 P Q : Nat) (hPQ : P * Q = 18446744073709551616) (hP : 0 < P) (h0 : A0 < 18446744073709551616) :
    A1 * P % 18446744073709551616 = P * (A1 % Q) ∧ A0 / Q < P ∧ A1 * P % 18446744073709551616 + A0 / Q < 18446744073709551616 ∧
    (A1 * 18446744073709551616 + A0) * P % 340282366920938463463374607431768211456 / 18446744073709551616 = A1 * P % 18446744073709551616 + A0 / Q ∧
    (A1 * 18446744073709551616 + A0) * P % 340282366920938463463374607431768211456 % 18446744073709551616 = A0 * P % 18446744073709551616 := by
  have hQ : 0 < Q := by
    rcases Nat.eq_zero_or_pos Q with h | h
    · rw [h] at hPQ; omega
    · exact h
  have e1 : A1 * P % 18446744073709551616 = P * (A1 % Q) := by
    have := Nat.mul_mod_mul_left P A1 Q
    rw [hPQ] at this
    rw [Nat.mul_comm A1 P, this]
  have e2 : A0 * P / 18446744073709551616 = A0 / Q := by
    have := Nat.mul_div_mul_left A0 Q hP
    rw [hPQ] at this
    rw [Nat.mul_comm A0 P, this]
  have e3 : A0 / Q < P := by
    apply Nat.div_lt_of_lt_mul
    rw [Nat.mul_comm]; omega
  have e4 : P * (A1 % Q) + P ≤ 18446744073709551616 := by
    have : A1 % Q + 1 ≤ Q := Nat.mod_lt _ hQ
    have := Nat.mul_le_mul_left P this
    rw [hPQ, Nat.mul_add, Nat.mul_one] at this
    exact this
  have e5 : (A1 * 18446744073709551616 + A0) * P = A1 * P * 18446744073709551616 + A0 * P := by
    rw [Nat.add_mul, Nat.mul_right_comm]
  rw [e5]
  refine ⟨e1, e3, by omega, ?_, ?_⟩
  · generalize A1 * P = U at *
    generalize A0 * P = T at *
    generalize A0 / Q = D at *
    generalize P * (A1 % Q) = C at *
    omega
  · generalize A1 * P = U at *
    generalize A0 * P = T at *
    omega

theorem lw (A0 A1 P K : Nat) : (A1 * K + A0) * (K * P) = A1 * P * (K * K) + A0 * P * K := by
  rw [Nat.add_mul]; simp only [Nat.mul_comm, Nat.mul_left_comm]
/-- The left shift by a word or more. -/
theorem leftw_nat (A0 A1 P : Nat) :
    (A1 * 18446744073709551616 + A0) * (18446744073709551616 * P) % 340282366920938463463374607431768211456 / 18446744073709551616 = A0 * P % 18446744073709551616 ∧
    (A1 * 18446744073709551616 + A0) * (18446744073709551616 * P) % 340282366920938463463374607431768211456 % 18446744073709551616 = 0 := by
  have e5 := lw A0 A1 P 18446744073709551616
  rw [e5]
  generalize A1 * P = U at *
  generalize A0 * P = T at *
  omega

/-- The right shift by less than a word. -/
theorem right_nat (A0 A1 P Q : Nat) (hPQ : P * Q = 18446744073709551616) (hP : 0 < P) (h0 : A0 < 18446744073709551616) :
    A1 * Q % 18446744073709551616 = Q * (A1 % P) ∧ A0 / P < Q ∧ A1 * Q % 18446744073709551616 + A0 / P < 18446744073709551616 ∧
    (A1 * 18446744073709551616 + A0) / P / 18446744073709551616 = A1 / P ∧
    (A1 * 18446744073709551616 + A0) / P % 18446744073709551616 = A1 * Q % 18446744073709551616 + A0 / P := by
  have hQ : 0 < Q := by
    rcases Nat.eq_zero_or_pos Q with h | h
    · rw [h] at hPQ; omega
    · exact h
  have hQP : Q * P = 18446744073709551616 := by rw [Nat.mul_comm]; exact hPQ
  have e1 : A1 * Q % 18446744073709551616 = Q * (A1 % P) := by
    have := Nat.mul_mod_mul_left Q A1 P
    rw [hQP] at this
    rw [Nat.mul_comm A1 Q, this]
  have e2 : A1 * Q / 18446744073709551616 = A1 / P := by
    have := Nat.mul_div_mul_left A1 P hQ
    rw [hQP] at this
    rw [Nat.mul_comm A1 Q, this]
  have e3 : A0 / P < Q := by
    apply Nat.div_lt_of_lt_mul
    omega
  have e4 : Q * (A1 % P) + Q ≤ 18446744073709551616 := by
    have : A1 % P + 1 ≤ P := Nat.mod_lt _ hP
    have := Nat.mul_le_mul_left Q this
    rw [hQP, Nat.mul_add, Nat.mul_one] at this
    exact this
  have e5 : (A1 * 18446744073709551616 + A0) / P = A1 * Q + A0 / P := by
    have : A1 * 18446744073709551616 = P * (A1 * Q) := by rw [← hPQ, Nat.mul_left_comm]
    rw [this, Nat.mul_add_div hP]
  rw [e5]
  refine ⟨e1, e3, by omega, ?_, ?_⟩
  · generalize A1 * Q = U at *
    generalize A0 / P = D at *
    generalize A1 / P = E at *
    generalize Q * (A1 % P) = C at *
    omega
  · generalize A1 * Q = U at *
    generalize A0 / P = D at *
    generalize Q * (A1 % P) = C at *
    omega

/-- Disjoint bits: 'or' is the sum. -/
theorem or_add (k : Nat) (c d : Nat) (h : d < 2 ^ k) : (2 ^ k * c) ||| d = 2 ^ k * c + d := (Nat.two_pow_add_eq_or_of_lt h c).symm
end Sh

theorem shl_lo_lo (a0 a1 : Int) (k : Nat) (h1 : k < 64) (ha0 : 0 ≤ a0) (ha1 : 0 ≤ a1) (ga0 : a0 < 18446744073709551616) (ga1 : a1 < 18446744073709551616) :
    IntKind.u64.wrap (a0 * 2 ^ k) = shlLo a1 a0 k ∧ bits .or .u64 (IntKind.u64.wrap (a1 * 2 ^ k)) (a0 / 2 ^ (64 - k)) = shlHi a1 a0 k := by
  obtain ⟨A0, rfl⟩ := Int.eq_ofNat_of_zero_le ha0
  obtain ⟨A1, rfl⟩ := Int.eq_ofNat_of_zero_le ha1
  have hPQ := Sh.split k (by omega)
  obtain ⟨f1, f2, f3, f4, f5⟩ := Sh.left_nat A0 A1 (2 ^ k) (2 ^ (64 - k)) hPQ (Sh.pos k) (by omega)
  have c0 : (A0 : Int) * 2 ^ k = ((A0 * 2 ^ k : Nat) : Int) := by push_cast; rfl
  have c1 : (A1 : Int) * 2 ^ k = ((A1 * 2 ^ k : Nat) : Int) := by push_cast; rfl
  have c2 : (A0 : Int) / 2 ^ (64 - k) = ((A0 / 2 ^ (64 - k) : Nat) : Int) := by push_cast; rfl
  have c3 : ((A1 : Int) * 18446744073709551616 + A0) * 2 ^ k = (((A1 * 18446744073709551616 + A0) * 2 ^ k : Nat) : Int) := by rw [show (A1 : Int) * 18446744073709551616 + A0 = ((A1 * 18446744073709551616 + A0 : Nat) : Int) by omega]; generalize A1 * 18446744073709551616 + A0 = V; push_cast; rfl
  unfold shlLo shlHi
  rw [c0, c1, c2, c3, IntKind.wrap_u64, IntKind.wrap_u64]
  constructor
  · have : ((A0 * 2 ^ k : Nat) : Int) % 18446744073709551616 = ((A0 * 2 ^ k % 18446744073709551616 : Nat) : Int) := by omega
    rw [this, ← f5]; omega
  · have : ((A1 * 2 ^ k : Nat) : Int) % 18446744073709551616 = ((A1 * 2 ^ k % 18446744073709551616 : Nat) : Int) := by omega
    rw [this, bits_or_u64_nat _ _ (by omega) (by omega), f1, Sh.or_add k _ _ f2, ← f1, ← f4]; omega

theorem shl_hi_hi (a0 a1 : Int) (j k : Nat) (hk : k = 64 + j) (ha0 : 0 ≤ a0) (ha1 : 0 ≤ a1) :
    IntKind.u64.wrap (a0 * 2 ^ j) = shlHi a1 a0 k ∧ 0 = shlLo a1 a0 k := by
  obtain ⟨A0, rfl⟩ := Int.eq_ofNat_of_zero_le ha0
  obtain ⟨A1, rfl⟩ := Int.eq_ofNat_of_zero_le ha1
  have e : 2 ^ k = 18446744073709551616 * 2 ^ j := by rw [hk, Nat.pow_add]
  obtain ⟨f1, f2⟩ := Sh.leftw_nat A0 A1 (2 ^ j)
  have c0 : (A0 : Int) * 2 ^ j = ((A0 * 2 ^ j : Nat) : Int) := by push_cast; rfl
  have c3 : ((A1 : Int) * 18446744073709551616 + A0) * 2 ^ k = (((A1 * 18446744073709551616 + A0) * 2 ^ k : Nat) : Int) := by rw [show (A1 : Int) * 18446744073709551616 + A0 = ((A1 * 18446744073709551616 + A0 : Nat) : Int) by omega]; generalize A1 * 18446744073709551616 + A0 = V; push_cast; rfl
  unfold shlLo shlHi
  rw [c0, c3, IntKind.wrap_u64, e]
  omega

theorem shr_lo_lo (a0 a1 : Int) (k : Nat) (h1 : k < 64) (ha0 : 0 ≤ a0) (ha1 : 0 ≤ a1) (ga0 : a0 < 18446744073709551616) (ga1 : a1 < 18446744073709551616) :
    bits .or .u64 (a0 / 2 ^ k) (IntKind.u64.wrap (a1 * 2 ^ (64 - k))) = shrLo a1 a0 k ∧ a1 / 2 ^ k = shrHi a1 a0 k := by
  obtain ⟨A0, rfl⟩ := Int.eq_ofNat_of_zero_le ha0
  obtain ⟨A1, rfl⟩ := Int.eq_ofNat_of_zero_le ha1
  have hPQ := Sh.split k (by omega)
  obtain ⟨f1, f2, f3, f4, f5⟩ := Sh.right_nat A0 A1 (2 ^ k) (2 ^ (64 - k)) hPQ (Sh.pos k) (by omega)
  have c0 : (A0 : Int) / 2 ^ k = ((A0 / 2 ^ k : Nat) : Int) := by push_cast; rfl
  have c1 : (A1 : Int) * 2 ^ (64 - k) = ((A1 * 2 ^ (64 - k) : Nat) : Int) := by push_cast; rfl
  have c2 : (A1 : Int) / 2 ^ k = ((A1 / 2 ^ k : Nat) : Int) := by push_cast; rfl
  have c3 : ((A1 : Int) * 18446744073709551616 + A0) / 2 ^ k = (((A1 * 18446744073709551616 + A0) / 2 ^ k : Nat) : Int) := by rw [show (A1 : Int) * 18446744073709551616 + A0 = ((A1 * 18446744073709551616 + A0 : Nat) : Int) by omega]; generalize A1 * 18446744073709551616 + A0 = V; push_cast; rfl
  unfold shrLo shrHi
  rw [c0, c1, c2, c3, IntKind.wrap_u64]
  constructor
  · have : ((A1 * 2 ^ (64 - k) : Nat) : Int) % 18446744073709551616 = ((A1 * 2 ^ (64 - k) % 18446744073709551616 : Nat) : Int) := by omega
    rw [this, bits_or_u64_nat _ _ (by omega) (by omega), Nat.or_comm, f1, Sh.or_add _ _ _ f2, ← f1, ← f5]; omega
  · rw [← f4]; omega

theorem shr_hi_hi (a0 a1 : Int) (j k : Nat) (hk : k = 64 + j) (ha0 : 0 ≤ a0) (ha1 : 0 ≤ a1) (ga0 : a0 < 18446744073709551616) (ga1 : a1 < 18446744073709551616) :
    a1 / 2 ^ j = shrLo a1 a0 k ∧ 0 = shrHi a1 a0 k := by
  obtain ⟨A0, rfl⟩ := Int.eq_ofNat_of_zero_le ha0
  obtain ⟨A1, rfl⟩ := Int.eq_ofNat_of_zero_le ha1
  have e : 2 ^ k = 18446744073709551616 * 2 ^ j := by rw [hk, Nat.pow_add]
  have c2 : (A1 : Int) / 2 ^ j = ((A1 / 2 ^ j : Nat) : Int) := by push_cast; rfl
  have c3 : ((A1 : Int) * 18446744073709551616 + A0) / 2 ^ k = (((A1 * 18446744073709551616 + A0) / 2 ^ k : Nat) : Int) := by rw [show (A1 : Int) * 18446744073709551616 + A0 = ((A1 * 18446744073709551616 + A0 : Nat) : Int) by omega]; generalize A1 * 18446744073709551616 + A0 = V; push_cast; rfl
  unfold shrLo shrHi
  rw [c2, c3, e, ← Nat.div_div_eq_div_mul]
  have e1 : (A1 * 18446744073709551616 + A0) / 18446744073709551616 = A1 := by omega
  rw [e1]
  have := Nat.div_le_self A1 (2 ^ j)
  generalize A1 / 2 ^ j = D at *
  omega

/-- One step more of the left shift. -/
theorem shl_step (h l : Int) (k : Nat) : (h * 18446744073709551616 + l) * 2 ^ (k + 1) % 340282366920938463463374607431768211456 = 2 * ((h * 18446744073709551616 + l) * 2 ^ k % 340282366920938463463374607431768211456) % 340282366920938463463374607431768211456 := by
  rw [Int.pow_succ, ← Int.mul_assoc]
  generalize (h * 18446744073709551616 + l) * 2 ^ k = T
  omega
theorem shr_step (h l : Int) (k : Nat) : (h * 18446744073709551616 + l) / 2 ^ (k + 1) = (h * 18446744073709551616 + l) / 2 ^ k / 2 := by
  rw [Int.pow_succ, Int.ediv_ediv_of_nonneg (Int.pow_nonneg (by decide))]
end Go.Proofs.YtkflpogmhailhaaGreatDoor

/- impl.boundDistance, words.left, words.right. -/
set_option linter.unusedVariables false
set_option linter.unusedSimpArgs false
namespace Go.Proofs.YtkflpogmhailhaaGreatDoor
open Go.RowKit


theorem bound_any (n : Int) (w : World) :
    Calls Tryz.prog 158 #[.int .i64 n] w fun e w' => e = .returned (.int .i64 (bnd n)) ∧ w' = w := by
  go_enter Tryz.func158, Tryz.ntmps158
  go_wp2
  all_goals go_returns
  all_goals (refine ⟨?_, rfl⟩; refine ret_congr ?_; refine congrArg (Value.int IntKind.i64) ?_; unfold bnd; (repeat' split) <;> omega)

set_option maxHeartbeats 1000000 in
theorem left_lo (a0 a1 n : Int) (k : Nat) (hn : bnd n = (k : Int)) (h1 : k < 64) (ha0 : 0 ≤ a0) (ha1 : 0 ≤ a1) (ga0 : a0 < 18446744073709551616) (ga1 : a1 < 18446744073709551616) (w : World) :
    Calls Tryz.prog 152 #[.agg #[.int .u64 a0, .int .u64 a1], .int .i64 n] w fun e w' => e = .returned (.agg #[.int .u64 (shlLo a1 a0 k), .int .u64 (shlHi a1 a0 k)]) ∧ Gr w w' := by
  have HM : Hid (_ ∧ _) := shl_lo_lo a0 a1 k h1 ha0 ha1 ga0 ga1
  have H := bound_any n
  rw [hn] at H
  have hs : (k : Int) / 64 = 0 := by omega
  have hs' : (k : Int) % 64 = k := by omega
  clear hn
  go_enter Tryz.func152, Tryz.ntmps152
  go_wp2_with (go_at_call 158; refine (H _).mono ?_; rintro e w' ⟨rfl, rfl⟩)
  clear H
  refine wp_loop_rounds 3 ?_
  rw [rounds_succ]
  go_wp2
  rw [rounds_succ]
  go_wp2
  go_region
  go_wp2
  rw [rounds_succ]
  go_wp2
  go_returns
  exact ⟨ret_w (HM.out.1) (HM.out.2), ⟨by go_grown, by go_grown⟩⟩

set_option maxHeartbeats 1000000 in
theorem left_mid (a0 a1 n : Int) (k : Nat) (j : Nat) (hn : bnd n = (k : Int)) (hk : k = 64 + j) (hj : j < 64) (ha0 : 0 ≤ a0) (ha1 : 0 ≤ a1) (ga0 : a0 < 18446744073709551616) (ga1 : a1 < 18446744073709551616) (w : World) :
    Calls Tryz.prog 152 #[.agg #[.int .u64 a0, .int .u64 a1], .int .i64 n] w fun e w' => e = .returned (.agg #[.int .u64 (shlLo a1 a0 k), .int .u64 (shlHi a1 a0 k)]) ∧ Gr w w' := by
  have HM : Hid (_ ∧ _) := shl_hi_hi a0 a1 j k hk ha0 ha1
  have H := bound_any n
  rw [hn] at H
  have hs : (k : Int) / 64 = 1 := by omega
  have hs' : (k : Int) % 64 = j := by omega
  clear hk
  clear hn
  go_enter Tryz.func152, Tryz.ntmps152
  go_wp2_with (go_at_call 158; refine (H _).mono ?_; rintro e w' ⟨rfl, rfl⟩)
  clear H
  refine wp_loop_rounds 3 ?_
  rw [rounds_succ]
  go_wp2
  rw [rounds_succ]
  go_wp2
  go_returns
  exact ⟨ret_w (HM.out.2) (HM.out.1), ⟨by go_grown, by go_grown⟩⟩

set_option maxHeartbeats 1000000 in
theorem right_lo (a0 a1 n : Int) (k : Nat) (hn : bnd n = (k : Int)) (h1 : k < 64) (ha0 : 0 ≤ a0) (ha1 : 0 ≤ a1) (ga0 : a0 < 18446744073709551616) (ga1 : a1 < 18446744073709551616) (w : World) :
    Calls Tryz.prog 151 #[.agg #[.int .u64 a0, .int .u64 a1], .int .i64 n] w fun e w' => e = .returned (.agg #[.int .u64 (shrLo a1 a0 k), .int .u64 (shrHi a1 a0 k)]) ∧ Gr w w' := by
  have HM : Hid (_ ∧ _) := shr_lo_lo a0 a1 k h1 ha0 ha1 ga0 ga1
  have H := bound_any n
  rw [hn] at H
  have hs : (k : Int) / 64 = 0 := by omega
  have hs' : (k : Int) % 64 = k := by omega
  clear hn
  go_enter Tryz.func151, Tryz.ntmps151
  go_wp2_with (go_at_call 158; refine (H _).mono ?_; rintro e w' ⟨rfl, rfl⟩)
  clear H
  refine wp_loop_rounds 3 ?_
  rw [rounds_succ]
  go_wp2
  go_region
  go_wp2
  rw [rounds_succ]
  go_wp2
  rw [rounds_succ]
  go_wp2
  go_returns
  exact ⟨ret_w (HM.out.1) (HM.out.2), ⟨by go_grown, by go_grown⟩⟩

set_option maxHeartbeats 1000000 in
theorem right_mid (a0 a1 n : Int) (k : Nat) (j : Nat) (hn : bnd n = (k : Int)) (hk : k = 64 + j) (hj : j < 64) (ha0 : 0 ≤ a0) (ha1 : 0 ≤ a1) (ga0 : a0 < 18446744073709551616) (ga1 : a1 < 18446744073709551616) (w : World) :
    Calls Tryz.prog 151 #[.agg #[.int .u64 a0, .int .u64 a1], .int .i64 n] w fun e w' => e = .returned (.agg #[.int .u64 (shrLo a1 a0 k), .int .u64 (shrHi a1 a0 k)]) ∧ Gr w w' := by
  have HM : Hid (_ ∧ _) := shr_hi_hi a0 a1 j k hk ha0 ha1 ga0 ga1
  have H := bound_any n
  rw [hn] at H
  have hs : (k : Int) / 64 = 1 := by omega
  have hs' : (k : Int) % 64 = j := by omega
  clear hk
  clear hn
  go_enter Tryz.func151, Tryz.ntmps151
  go_wp2_with (go_at_call 158; refine (H _).mono ?_; rintro e w' ⟨rfl, rfl⟩)
  clear H
  refine wp_loop_rounds 3 ?_
  rw [rounds_succ]
  go_wp2
  rw [rounds_succ]
  go_wp2
  go_returns
  exact ⟨ret_w (HM.out.1) (HM.out.2), ⟨by go_grown, by go_grown⟩⟩

theorem shl_128 (a0 a1 : Int) (ha0 : 0 ≤ a0) (ha1 : 0 ≤ a1) : 0 = shlLo a1 a0 128 ∧ 0 = shlHi a1 a0 128 := by
  have e : (2 : Int) ^ 128 = 340282366920938463463374607431768211456 := by decide
  unfold shlLo shlHi; rw [e]; omega
theorem shr_128 (a0 a1 : Int) (ha0 : 0 ≤ a0) (ha1 : 0 ≤ a1) (ga0 : a0 < 18446744073709551616) (ga1 : a1 < 18446744073709551616) : 0 = shrLo a1 a0 128 ∧ 0 = shrHi a1 a0 128 := by
  have e : (2 : Int) ^ 128 = 340282366920938463463374607431768211456 := by decide
  unfold shrLo shrHi; rw [e]; omega

set_option maxHeartbeats 1000000 in
theorem left_end (a0 a1 n : Int) (k : Nat) (hn : bnd n = (k : Int)) (hk : k = 128) (ha0 : 0 ≤ a0) (ha1 : 0 ≤ a1) (ga0 : a0 < 18446744073709551616) (ga1 : a1 < 18446744073709551616) (w : World) :
    Calls Tryz.prog 152 #[.agg #[.int .u64 a0, .int .u64 a1], .int .i64 n] w fun e w' => e = .returned (.agg #[.int .u64 (shlLo a1 a0 k), .int .u64 (shlHi a1 a0 k)]) ∧ Gr w w' := by
  have HM : Hid (_ ∧ _) := shl_128 a0 a1 ha0 ha1
  have H := bound_any n
  rw [hn] at H
  subst hk
  clear hn
  go_enter Tryz.func152, Tryz.ntmps152
  go_wp2_with (go_at_call 158; refine (H _).mono ?_; rintro e w' ⟨rfl, rfl⟩)
  clear H
  refine wp_loop_rounds 3 ?_
  rw [rounds_succ]
  go_wp2
  go_returns
  exact ⟨ret_w (HM.out.1) (HM.out.2), ⟨by go_grown, by go_grown⟩⟩

set_option maxHeartbeats 1000000 in
theorem right_end (a0 a1 n : Int) (k : Nat) (hn : bnd n = (k : Int)) (hk : k = 128) (ha0 : 0 ≤ a0) (ha1 : 0 ≤ a1) (ga0 : a0 < 18446744073709551616) (ga1 : a1 < 18446744073709551616) (w : World) :
    Calls Tryz.prog 151 #[.agg #[.int .u64 a0, .int .u64 a1], .int .i64 n] w fun e w' => e = .returned (.agg #[.int .u64 (shrLo a1 a0 k), .int .u64 (shrHi a1 a0 k)]) ∧ Gr w w' := by
  have HM : Hid (_ ∧ _) := shr_128 a0 a1 ha0 ha1 ga0 ga1
  have H := bound_any n
  rw [hn] at H
  subst hk
  clear hn
  go_enter Tryz.func151, Tryz.ntmps151
  go_wp2_with (go_at_call 158; refine (H _).mono ?_; rintro e w' ⟨rfl, rfl⟩)
  clear H
  refine wp_loop_rounds 3 ?_
  rw [rounds_succ]
  go_wp2
  go_returns
  exact ⟨ret_w (HM.out.1) (HM.out.2), ⟨by go_grown, by go_grown⟩⟩

theorem left_any (a0 a1 n : Int) (ha0 : 0 ≤ a0) (ha1 : 0 ≤ a1) (ga0 : a0 < 18446744073709551616) (ga1 : a1 < 18446744073709551616) (w : World) :
    Calls Tryz.prog 152 #[.agg #[.int .u64 a0, .int .u64 a1], .int .i64 n] w fun e w' => e = .returned (.agg #[.int .u64 (shlLo a1 a0 (bnd n).toNat), .int .u64 (shlHi a1 a0 (bnd n).toNat)]) ∧ Gr w w' := by
  have hb : 0 ≤ bnd n ∧ bnd n ≤ 128 := by unfold bnd; (repeat' split) <;> omega
  obtain ⟨k, hk⟩ := Int.eq_ofNat_of_zero_le hb.1
  have ek : (bnd n).toNat = k := by omega
  rw [ek]
  rcases Nat.lt_or_ge k 64 with h | h
  · exact left_lo a0 a1 n k hk h ha0 ha1 ga0 ga1 w
  · rcases Nat.lt_or_ge k 128 with h' | h'
    · exact left_mid a0 a1 n k (k - 64) hk (by omega) (by omega) ha0 ha1 ga0 ga1 w
    · exact left_end a0 a1 n k hk (by omega) ha0 ha1 ga0 ga1 w

theorem right_any (a0 a1 n : Int) (ha0 : 0 ≤ a0) (ha1 : 0 ≤ a1) (ga0 : a0 < 18446744073709551616) (ga1 : a1 < 18446744073709551616) (w : World) :
    Calls Tryz.prog 151 #[.agg #[.int .u64 a0, .int .u64 a1], .int .i64 n] w fun e w' => e = .returned (.agg #[.int .u64 (shrLo a1 a0 (bnd n).toNat), .int .u64 (shrHi a1 a0 (bnd n).toNat)]) ∧ Gr w w' := by
  have hb : 0 ≤ bnd n ∧ bnd n ≤ 128 := by unfold bnd; (repeat' split) <;> omega
  obtain ⟨k, hk⟩ := Int.eq_ofNat_of_zero_le hb.1
  have ek : (bnd n).toNat = k := by omega
  rw [ek]
  rcases Nat.lt_or_ge k 64 with h | h
  · exact right_lo a0 a1 n k hk h ha0 ha1 ga0 ga1 w
  · rcases Nat.lt_or_ge k 128 with h' | h'
    · exact right_mid a0 a1 n k (k - 64) hk (by omega) (by omega) ha0 ha1 ga0 ga1 w
    · exact right_end a0 a1 n k hk (by omega) ha0 ha1 ga0 ga1 w
end Go.Proofs.YtkflpogmhailhaaGreatDoor

/- impl.ShiftLeft. -/
set_option linter.unusedVariables false
set_option linter.unusedSimpArgs false
namespace Go.Proofs.YtkflpogmhailhaaGreatDoor
open Go.RowKit

set_option maxHeartbeats 1000000 in
theorem shiftLeft_any (h l n : Int) (hh0 : 0 ≤ h) (hl0 : 0 ≤ l) (hh1 : h < 18446744073709551616) (hl1 : l < 18446744073709551616) (w : World) :
    Calls Tryz.prog 149 #[.agg #[.int .u64 h, .int .u64 l], .int .i64 n] w fun e w' => e = .returned (.agg #[.int .u64 (shlHi h l (bnd n).toNat), .int .u64 (shlLo h l (bnd n).toNat)]) ∧ Gr w w' := by
  go_enter Tryz.func149, Tryz.ntmps149
  go_wp2_with (first
    | (go_at_call 150; refine (wordsOf_any _ _ _).mono ?_; rintro e w1 ⟨rfl, c1, c2, rfl⟩)
    | (go_at_call 152; refine (left_any l h n hl0 hh0 hl1 hh1 _).mono ?_; rintro e w2 ⟨rfl, hg_w2⟩)
    | (go_at_call 136; refine (wide_gr _ _ _).mono ?_; rintro e w3 ⟨rfl, hg_w3⟩; have hf3 := hg_w3.frozens; have hf2 := hg_w2.frozens; have q0 : w3.cell? ⟨w.heap.size + 1, 0, none⟩ = some (.int .u64 0) := kl; have q1 : w3.cell? ⟨w.heap.size + 1, 1, none⟩ = some (.int .u64 0) := kl))
  refine bodyPost_ret (v := .agg #[.int .u64 (shlHi h l (bnd n).toNat), .int .u64 (shlLo h l (bnd n).toNat)]) (by simp [results, Tryz.results149, go_sem, q0, q1]) rfl ⟨rfl, ?_⟩
  exact kr

/-- What was lost in a right shift is seen by the shift back. -/
theorem lost_back (h l : Int) (k : Nat) (h0 : 0 ≤ h) (l0 : 0 ≤ l) (h1 : h < 18446744073709551616) (l1 : l < 18446744073709551616) :
    (shlHi (shrHi h l k) (shrLo h l k) k = h ∧ shlLo (shrHi h l k) (shrLo h l k) k = l ↔ shrLost h l k = false) ∧ (0 ≤ shrHi h l k ∧ shrHi h l k < 18446744073709551616 ∧ 0 ≤ shrLo h l k ∧ shrLo h l k < 18446744073709551616) := by
  have hp : (0 : Int) < 2 ^ k := Int.pow_pos (by decide)
  unfold shlHi shlLo shrHi shrLo shrLost
  have hV0 : 0 ≤ h * 18446744073709551616 + l := by omega
  have hV1 : h * 18446744073709551616 + l < 340282366920938463463374607431768211456 := by omega
  have eh : h = (h * 18446744073709551616 + l) / 18446744073709551616 := by omega
  have el : l = (h * 18446744073709551616 + l) % 18446744073709551616 := by omega
  generalize h * 18446744073709551616 + l = V at *
  subst eh el
  have e1 : V / 2 ^ k / 18446744073709551616 * 18446744073709551616 + V / 2 ^ k % 18446744073709551616 = V / 2 ^ k := by omega
  rw [e1]
  have e2 : V / 2 ^ k * 2 ^ k + V % 2 ^ k = V := Int.ediv_mul_add_emod V (2 ^ k)
  have e3 : 0 ≤ V % 2 ^ k := Int.emod_nonneg _ (by omega)
  have e4 : 0 ≤ V / 2 ^ k := Int.ediv_nonneg hV0 (by omega)
  have e5 : V / 2 ^ k ≤ V := Int.ediv_le_self _ hV0
  have e6 : 0 ≤ V / 2 ^ k * 2 ^ k := Int.mul_nonneg e4 (by omega)
  generalize V / 2 ^ k * 2 ^ k = T at *
  generalize V / 2 ^ k = D at *
  generalize V % 2 ^ k = R at *
  refine ⟨?_, by omega, by omega, by omega, by omega⟩
  simp only [decide_eq_false_iff_not, Classical.not_not]
  omega
end Go.Proofs.YtkflpogmhailhaaGreatDoor

/- impl.ShiftRight. -/
set_option linter.unusedVariables false
set_option linter.unusedSimpArgs false
namespace Go.Proofs.YtkflpogmhailhaaGreatDoor
open Go.RowKit

set_option maxHeartbeats 1000000 in
theorem shiftRight_core (h l n A B : Int) (r : Bool) (hh0 : 0 ≤ h) (hl0 : 0 ≤ l) (hh1 : h < 18446744073709551616) (hl1 : l < 18446744073709551616)
    (HL : ∀ w, Calls Tryz.prog 152 #[.agg #[.int .u64 (shrLo h l (bnd n).toNat), .int .u64 (shrHi h l (bnd n).toNat)], .int .i64 n] w fun e w' => e = .returned (.agg #[.int .u64 A, .int .u64 B]) ∧ Gr w w')
    (hc : (l = A ∧ h = B ∧ r = false) ∨ ((A == l) = false ∧ r = true) ∨ (l = A ∧ (B == h) = false ∧ r = true)) (w : World) :
    Calls Tryz.prog 130 #[.agg #[.int .u64 h, .int .u64 l], .int .i64 n] w fun e w' => e = .returned (.tuple #[.agg #[.int .u64 (shrHi h l (bnd n).toNat), .int .u64 (shrLo h l (bnd n).toNat)], .bool r]) ∧ Gr w w' := by
  have HLL : Hid _ := HL
  clear HL
  have hq := eqWords A B l h
  rcases hc with ⟨rfl, rfl, rfl⟩ | ⟨hA, rfl⟩ | ⟨rfl, hB, rfl⟩
  all_goals simp only [*, BEq.rfl, Bool.and_true, Bool.true_and, Bool.and_false, Bool.false_and] at hq
  all_goals
    go_enter Tryz.func130, Tryz.ntmps130
    go_wp2_with (first
      | (go_at_call 150; refine (wordsOf_any _ _ _).mono ?_; rintro e w1 ⟨rfl, c1, c2, rfl⟩)
      | (go_at_call 151; refine (right_any _ _ n hl0 hh0 hl1 hh1 _).mono ?_; rintro e w2 ⟨rfl, hg_w2⟩; have hc_w2 := hg_w2.cells; have hf_w2 := hg_w2.frozens; have hz_w2 := hg_w2.size; (try simp only [World.size_alloc, World.size_drew, World.size_setCell] at hz_w2)))
    go_region_held3 (fun w' => w'.cell? ⟨w2.heap.size, 0, none⟩ = some (.int .u64 (shrLo h l (bnd n).toNat)) ∧ w'.cell? ⟨w2.heap.size, 1, none⟩ = some (.int .u64 (shrHi h l (bnd n).toNat))
        ∧ w'.cell? ⟨w.heap.size + 1 + 1 + 1 + 1, 0, none⟩ = some (.int .u64 l) ∧ w'.cell? ⟨w.heap.size + 1 + 1 + 1 + 1, 1, none⟩ = some (.int .u64 h))
      ((go_split_ands; (repeat' apply And.intro) <;> exact kl))
      (first
        | (go_at_call 136; refine (wide_gr _ _ _).mono ?_; rintro e w3 ⟨rfl, hg_w3⟩; have hc_w3 := hg_w3.cells; have hf_w3 := hg_w3.frozens; have hz_w3 := hg_w3.size; (try simp only [World.size_alloc, World.size_drew, World.size_setCell] at hz_w3))
        | (go_at_call 152; refine (HLL.out _).mono ?_; rintro e w4 ⟨rfl, hg_w4⟩; have q0 : w4.cell? ⟨w.heap.size + 1, 0, none⟩ = some (.int .u64 0) := (by go_split_ands; (repeat' (first | (with_reducible assumption) | (with_reducible refine has_of (by with_reducible assumption)) | (with_reducible refine Gr.old (by with_reducible assumption) ?_) | (with_reducible refine cell_swap _ ?_ (by with_reducible assumption); omega) | (with_reducible refine cell_setSame ?_) | (with_reducible refine has_old (by with_reducible assumption) ?_) | (with_reducible refine has_set ?_) | (with_reducible refine cell_setOff ?_ ?_; omega) | (with_reducible refine cell_setNew ?_ ?_; (dsimp only; omega)) | (simp [go_sem]; done) | (simp [go_sem]; rfl) | (with_reducible refine cell_alloc _ ?_) | (with_reducible refine cell_drew ?_) | (with_reducible refine has_alloc _ ?_) | (with_reducible refine fz_old (by with_reducible assumption) ?_) | (with_reducible refine fz_alloc ?_) | (with_reducible refine fz_set ?_) | (with_reducible refine fz_drew ?_)))); have q1 : w4.cell? ⟨w.heap.size + 1, 1, none⟩ = some (.int .u64 0) := (by go_split_ands; (repeat' (first | (with_reducible assumption) | (with_reducible refine has_of (by with_reducible assumption)) | (with_reducible refine Gr.old (by with_reducible assumption) ?_) | (with_reducible refine cell_swap _ ?_ (by with_reducible assumption); omega) | (with_reducible refine cell_setSame ?_) | (with_reducible refine has_old (by with_reducible assumption) ?_) | (with_reducible refine has_set ?_) | (with_reducible refine cell_setOff ?_ ?_; omega) | (with_reducible refine cell_setNew ?_ ?_; (dsimp only; omega)) | (simp [go_sem]; done) | (simp [go_sem]; rfl) | (with_reducible refine cell_alloc _ ?_) | (with_reducible refine cell_drew ?_) | (with_reducible refine has_alloc _ ?_) | (with_reducible refine fz_old (by with_reducible assumption) ?_) | (with_reducible refine fz_alloc ?_) | (with_reducible refine fz_set ?_) | (with_reducible refine fz_drew ?_)))); have z0 : w4.frozen? ⟨w.heap.size + 1, 0, none⟩ = false := (by go_split_ands; (repeat' (first | (with_reducible assumption) | (with_reducible refine has_of (by with_reducible assumption)) | (with_reducible refine Gr.old (by with_reducible assumption) ?_) | (with_reducible refine cell_swap _ ?_ (by with_reducible assumption); omega) | (with_reducible refine cell_setSame ?_) | (with_reducible refine has_old (by with_reducible assumption) ?_) | (with_reducible refine has_set ?_) | (with_reducible refine cell_setOff ?_ ?_; omega) | (with_reducible refine cell_setNew ?_ ?_; (dsimp only; omega)) | (simp [go_sem]; done) | (simp [go_sem]; rfl) | (with_reducible refine cell_alloc _ ?_) | (with_reducible refine cell_drew ?_) | (with_reducible refine has_alloc _ ?_) | (with_reducible refine fz_old (by with_reducible assumption) ?_) | (with_reducible refine fz_alloc ?_) | (with_reducible refine fz_set ?_) | (with_reducible refine fz_drew ?_)))); have z1 : w4.frozen? ⟨w.heap.size + 1, 1, none⟩ = false := (by go_split_ands; (repeat' (first | (with_reducible assumption) | (with_reducible refine has_of (by with_reducible assumption)) | (with_reducible refine Gr.old (by with_reducible assumption) ?_) | (with_reducible refine cell_swap _ ?_ (by with_reducible assumption); omega) | (with_reducible refine cell_setSame ?_) | (with_reducible refine has_old (by with_reducible assumption) ?_) | (with_reducible refine has_set ?_) | (with_reducible refine cell_setOff ?_ ?_; omega) | (with_reducible refine cell_setNew ?_ ?_; (dsimp only; omega)) | (simp [go_sem]; done) | (simp [go_sem]; rfl) | (with_reducible refine cell_alloc _ ?_) | (with_reducible refine cell_drew ?_) | (with_reducible refine has_alloc _ ?_) | (with_reducible refine fz_old (by with_reducible assumption) ?_) | (with_reducible refine fz_alloc ?_) | (with_reducible refine fz_set ?_) | (with_reducible refine fz_drew ?_))))))
  all_goals go_wp2
  all_goals
    refine bodyPost_ret (v := .tuple #[.agg #[.int .u64 (shrHi h l (bnd n).toNat), .int .u64 (shrLo h l (bnd n).toNat)], .bool _]) (by simp [results, Tryz.results130, go_sem, q0, q1]) rfl ⟨rfl, ?_⟩
    exact kr

theorem shiftRight_any (h l n : Int) (hh0 : 0 ≤ h) (hl0 : 0 ≤ l) (hh1 : h < 18446744073709551616) (hl1 : l < 18446744073709551616) (w : World) :
    Calls Tryz.prog 130 #[.agg #[.int .u64 h, .int .u64 l], .int .i64 n] w fun e w' => e = .returned (.tuple #[.agg #[.int .u64 (shrHi h l (bnd n).toNat), .int .u64 (shrLo h l (bnd n).toNat)], .bool (shrLost h l (bnd n).toNat)]) ∧ Gr w w' := by
  obtain ⟨hback, k0, k1, k2, k3⟩ := lost_back h l (bnd n).toNat hh0 hl0 hh1 hl1
  refine shiftRight_core h l n _ _ _ hh0 hl0 hh1 hl1 (fun w => left_any _ _ n k2 k0 k3 k1 w) ?_ w
  generalize shlLo (shrHi h l (bnd n).toNat) (shrLo h l (bnd n).toNat) (bnd n).toNat = A at *
  generalize shlHi (shrHi h l (bnd n).toNat) (shrLo h l (bnd n).toNat) (bnd n).toNat = B at *
  generalize shrLost h l (bnd n).toNat = r at *
  by_cases hA : A = l
  · by_cases hB : B = h
    · exact .inl ⟨hA.symm, hB.symm, hback.mp ⟨hB, hA⟩⟩
    · refine .inr (.inr ⟨hA.symm, by simp [hB], ?_⟩)
      cases r
      · exact absurd (hback.mpr rfl).1 hB
      · rfl
  · refine .inr (.inl ⟨by simp [hA], ?_⟩)
    cases r
    · exact absurd (hback.mpr rfl).2 hA
    · rfl

end Go.Proofs.YtkflpogmhailhaaGreatDoor
