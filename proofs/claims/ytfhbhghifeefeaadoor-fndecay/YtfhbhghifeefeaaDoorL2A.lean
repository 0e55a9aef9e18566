/- Chapter 2's model: the numbers of a format, l2Bad, l2Put, l2Fits. -/
import Derived.Test.YtfhbhghifeefeaaDoorBase
import Derived.Test.YtfhbhghifeefeaaDoorRows
import Derived.WalkSpells
import Derived.WalkLawsBesides
set_option linter.unusedVariables false
set_option linter.unusedSimpArgs false

namespace Go.Proofs.YtfhbhghifeefeaaDoor
open Go.RowKit

/-- The numbers of a format: precision, greatest exponent, 2^(p-1), the words of infinity, of the sign, of the canonical NaN. -/
def IsFmt (f p mx one inf sg nan : Int) : Prop :=
  (f = 0 ∧ p = 24 ∧ mx = 127 ∧ one = 8388608 ∧ inf = 2139095040 ∧ sg = 2147483648 ∧ nan = 2143289344) ∨
  (f = 1 ∧ p = 53 ∧ mx = 1023 ∧ one = 4503599627370496 ∧ inf = 9218868437227405312 ∧ sg = 9223372036854775808 ∧ nan = 9221120237041090560)

theorem pow_small (k : Nat) (h : k ≤ 62) : (2 : Int) ^ k ≤ 4611686018427387904 := by
  have := Nat.pow_le_pow_right (show 0 < 2 by decide) h
  have c : (2 : Int) ^ k = ((2 ^ k : Nat) : Int) := by push_cast; rfl
  rw [c]; omega

/-- spec.l2Two: a power of two. -/
theorem l2Two_any (n : Nat) (z : Int) (hn : n ≤ 63) (hz : z = 2 ^ n) (w : World) :
    Calls Tryd.prog 14 #[.int .i64 n] w fun e w' => e = .returned (.int .u64 z) ∧ w = w' := by
  have HZ : Hid _ := hz
  clear hz
  go_enter Tryd.func14, Tryd.ntmps14
  go_wp2
  go_loop [3, 4] (fun s i => ∃ (k : Nat) (P : Int), k ≤ n ∧ s = .int .u64 P ∧ i = .int .i64 k ∧ Hid (P = 2 ^ k) ∧ 1 ≤ P) (fun _ i => n - (intOf i).toNat)
  case atStart => exact ⟨0, 1, by omega, rfl, rfl, rfl, by omega⟩
  case round =>
    obtain ⟨k, P, hk, rfl, rfl, HP, p1⟩ := hrel
    by_cases hlt : (k : Int) < (n : Int)
    · have hp := pow_small k (by omega)
      rw [← HP.out] at hp
      go_wp2
      go_round
      case rel => exact ⟨k + 1, P * 2, by omega, rfl, by go_num, by show _ = _; rw [Int.pow_succ, ← HP.out], by omega⟩
      case measure => simp [intOf]; omega
    · have e : P = z := by rw [HP.out, HZ.out, show k = n by omega]
      have E : Hid _ := e
      clear e
      go_wp2
      go_ret
      exact ⟨ret_congr (congrArg (Value.int IntKind.u64) E.out), rfl⟩

theorem IsFmt.bounds {f p mx one inf sg nan : Int} (h : IsFmt f p mx one inf sg nan) : 24 ≤ p ∧ p ≤ 53 ∧ 127 ≤ mx ∧ mx ≤ 1023 ∧ 8388608 ≤ one ∧ one ≤ 4503599627370496 ∧ 0 < inf ∧ inf < sg ∧ inf < nan ∧ nan < sg ∧ sg ≤ 9223372036854775808 ∧ one < inf := by
  rcases h with h | h <;> omega
theorem IsFmt.pow {f p mx one inf sg nan : Int} (h : IsFmt f p mx one inf sg nan) : ∃ n : Nat, (n : Int) = p - 1 ∧ n ≤ 63 ∧ one = 2 ^ n := by
  rcases h with h | h
  · exact ⟨23, by omega, by omega, by rw [h.2.2.2.1]; decide⟩
  · exact ⟨52, by omega, by omega, by rw [h.2.2.2.1]; decide⟩

theorem l2One_any {f p mx one inf sg nan : Int} (h : IsFmt f p mx one inf sg nan) (w : World) :
    Calls Tryd.prog 14 #[.int .i64 (p - 1)] w fun e w' => e = .returned (.int .u64 one) ∧ w = w' := by
  obtain ⟨n, hn, hn63, hone⟩ := h.pow
  rw [← hn]
  exact l2Two_any n one hn63 hone w

end Go.Proofs.YtfhbhghifeefeaaDoor

namespace Go.Proofs.YtfhbhghifeefeaaDoor
open Go.RowKit

theorem fmt64 : IsFmt 1 53 1023 4503599627370496 9218868437227405312 9223372036854775808 9221120237041090560 := .inr ⟨rfl, rfl, rfl, rfl, rfl, rfl, rfl⟩

theorem IsFmt.yes {f p mx one inf sg nan : Int} (h : IsFmt f p mx one inf sg nan) : true = decide (f = 0 ∨ f = 1) := by
  rcases h with h | h <;> simp [h.1]

end Go.Proofs.YtfhbhghifeefeaaDoor

namespace Go.Proofs.YtfhbhghifeefeaaDoor
open Go.RowKit

end Go.Proofs.YtfhbhghifeefeaaDoor
