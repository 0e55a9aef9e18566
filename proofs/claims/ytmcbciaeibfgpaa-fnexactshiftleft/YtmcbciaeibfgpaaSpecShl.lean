/- spec.ShiftLeft. -/
import Derived.Test.YtmcbciaeibfgpaaBase
import Derived.Test.YtmcbciaeibfgpaaRows
import Derived.Test.YtmcbciaeibfgpaaShiftMath
import Derived.Test.YtmcbciaeibfgpaaBnd
import Derived.WalkSpells
set_option linter.unusedVariables false
set_option linter.unusedSimpArgs false
namespace Go.Proofs.Ytmcbciaeibfgpaa
open Go.RowKit


set_option maxHeartbeats 1000000 in
theorem specShl_any (h l n : Int) (hh0 : 0 ≤ h) (hl0 : 0 ≤ l) (hh1 : h < 18446744073709551616) (hl1 : l < 18446744073709551616) (w : World) :
    Calls Try.prog 18 #[.agg #[.int .u64 h, .int .u64 l], .int .i64 n] w fun e w' => e = .returned (.agg #[.int .u64 (shlHi h l (bnd n).toNat), .int .u64 (shlLo h l (bnd n).toNat)]) ∧ ∃ c1 c2 : Array Value, w' = (w.alloc (.cells c1 24)).alloc (.cells c2 24) := by
  go_enter Try.func18, Try.ntmps18
  go_wp2
  go_loopw [5] (fun i wr => ∃ (k : Nat) (X : Int), k ≤ 128 ∧ ((k : Int) ≤ n ∨ k = 0) ∧ i = .int .i64 k ∧ Hid (X = (h * 18446744073709551616 + l) * 2 ^ k % 340282366920938463463374607431768211456) ∧ 0 ≤ X ∧ X < 340282366920938463463374607431768211456 ∧ wr = (w.alloc (.cells #[.int .u64 (X / 18446744073709551616), .int .u64 (X % 18446744073709551616)] 24)).alloc (.cells #[.int .u64 0, .int .u64 0] 24)) (fun i _ => 128 - (intOf i).toNat)
  case atStart => exact ⟨0, h * 18446744073709551616 + l, by omega, by omega, rfl, by show _ = _; rw [Int.pow_zero]; omega, by omega, by omega, world_w (by omega) (by omega)⟩
  case round =>
    obtain ⟨k, X, hk, hkn, rfl, HX, x0, x1, rfl⟩ := hrel
    have fin : ∀ (h2 : (k : Int) = bnd n), X / 18446744073709551616 = shlHi h l (bnd n).toNat ∧ X % 18446744073709551616 = shlLo h l (bnd n).toNat := by
      intro h2
      have : (bnd n).toNat = k := by omega
      unfold shlHi shlLo
      rw [this, ← HX.out]
      exact ⟨rfl, rfl⟩
    have HF : Hid (_ → _) := fin
    clear fin
    by_cases h1 : (k : Int) < n
    · by_cases h2 : (k : Int) < 128
      · go_wp2
        go_roundw
        case rel => exact ⟨k + 1, 2 * X % 340282366920938463463374607431768211456, by omega, by omega, by go_num, by show _ = _; rw [HX.out, shl_step], by omega, by omega, world_w (by first | omega | (simp only [IntKind.wrap_u64]; omega)) (by first | omega | (simp only [IntKind.wrap_u64]; omega))⟩
        case measure => simp [intOf]; omega
      · go_wp2
        go_returns
        have e : (k : Int) = bnd n := by unfold bnd; (repeat' split) <;> omega
        exact ⟨ret_w (HF.out e).1 (HF.out e).2, _, _, rfl⟩
    · go_wp2
      go_returns
      have e : (k : Int) = bnd n := by unfold bnd; (repeat' split) <;> omega
      exact ⟨ret_w (HF.out e).1 (HF.out e).2, _, _, rfl⟩

end Go.Proofs.Ytmcbciaeibfgpaa
