/- spec.ShiftRight. -/
import Derived.Test.YtoaggnpcmieeaaaDoorA1
import Derived.Test.YtoaggnpcmieeaaaDoorRows
import Derived.Test.YtoaggnpcmieeaaaDoorA3
import Derived.Test.YtoaggnpcmieeaaaDoorA2
import Derived.WalkSpells
set_option linter.unusedVariables false
set_option linter.unusedSimpArgs false
namespace Go.Proofs.YtoaggnpcmieeaaaDoor
open Go.RowKit

theorem lost_step (h l : Int) (k : Nat) (h0 : 0 ≤ h) (l0 : 0 ≤ l) : shrLost h l (k + 1) = (shrLost h l k || decide ((h * 18446744073709551616 + l) / 2 ^ k % 2 = 1)) := by
  obtain ⟨H, rfl⟩ := Int.eq_ofNat_of_zero_le h0
  obtain ⟨L, rfl⟩ := Int.eq_ofNat_of_zero_le l0
  unfold shrLost
  rw [show (H : Int) * 18446744073709551616 + L = ((H * 18446744073709551616 + L : Nat) : Int) by omega]
  generalize H * 18446744073709551616 + L = V
  have c1 : (V : Int) % 2 ^ (k + 1) = ((V % 2 ^ (k + 1) : Nat) : Int) := by push_cast; rfl
  have c2 : (V : Int) % 2 ^ k = ((V % 2 ^ k : Nat) : Int) := by push_cast; rfl
  have c3 : (V : Int) / 2 ^ k = ((V / 2 ^ k : Nat) : Int) := by push_cast; rfl
  rw [c1, c2, c3, Nat.pow_succ, Nat.mod_mul]
  have hp : 0 < 2 ^ k := Nat.pow_pos (by decide)
  generalize 2 ^ k = P at *
  generalize V % P = A at *
  generalize V / P = B at *
  rcases Nat.mod_two_eq_zero_or_one B with e | e
  · rw [e, Nat.mul_zero, Nat.add_zero]
    have : ¬ ((B : Nat) : Int) % 2 = 1 := by omega
    simp [this]
  · rw [e, Nat.mul_one]
    have : ((B : Nat) : Int) % 2 = 1 := by omega
    simp only [this, decide_true, Bool.or_true, decide_eq_true_eq]
    omega
theorem lost_zero (h l : Int) : shrLost h l 0 = false := by
  unfold shrLost; rw [Int.pow_zero]; simp [Int.emod_one]

set_option maxHeartbeats 1000000 in
theorem specShr_any (h l n : Int) (hh0 : 0 ≤ h) (hl0 : 0 ≤ l) (hh1 : h < 18446744073709551616) (hl1 : l < 18446744073709551616) (w : World) :
    Calls Tryd.prog 66 #[.agg #[.int .u64 h, .int .u64 l], .int .i64 n] w fun e w' => e = .returned (.tuple #[.agg #[.int .u64 (shrHi h l (bnd n).toNat), .int .u64 (shrLo h l (bnd n).toNat)], .bool (shrLost h l (bnd n).toNat)]) ∧ ∃ c1 c2 : Array Value, w' = (w.alloc (.cells c1 34)).alloc (.cells c2 34) := by
  go_enter Tryd.func66, Tryd.ntmps66
  go_wp2
  go_loopw [6, 7] (fun b i wr => ∃ (k : Nat) (X : Int) (L : Bool), k ≤ 128 ∧ ((k : Int) ≤ n ∨ k = 0) ∧ i = .int .i64 k ∧ b = .bool L ∧ Hid (L = shrLost h l k) ∧ Hid (X = (h * 18446744073709551616 + l) / 2 ^ k) ∧ 0 ≤ X ∧ X < 340282366920938463463374607431768211456 ∧ wr = (w.alloc (.cells #[.int .u64 (X / 18446744073709551616), .int .u64 (X % 18446744073709551616)] 34)).alloc (.cells #[.int .u64 0, .int .u64 0] 34)) (fun _ i _ => 128 - (intOf i).toNat)
  case atStart => exact ⟨0, h * 18446744073709551616 + l, false, by omega, by omega, rfl, rfl, (lost_zero h l).symm, by show _ = _; rw [Int.pow_zero]; omega, by omega, by omega, world_w (by omega) (by omega)⟩
  case round =>
    obtain ⟨k, X, L, hk, hkn, rfl, rfl, HL, HX, x0, x1, rfl⟩ := hrel
    have fin : ∀ (h2 : (k : Int) = bnd n), X / 18446744073709551616 = shrHi h l (bnd n).toNat ∧ X % 18446744073709551616 = shrLo h l (bnd n).toNat ∧ L = shrLost h l (bnd n).toNat := by
      intro h2
      have : (bnd n).toNat = k := by omega
      unfold shrHi shrLo
      rw [this, ← HX.out]
      exact ⟨rfl, rfl, HL.out⟩
    have HF : Hid (_ → _) := fin
    clear fin
    by_cases h1 : (k : Int) < n
    · by_cases h2 : (k : Int) < 128
      · have hx2 : 0 ≤ X / 2 ∧ X / 2 < 340282366920938463463374607431768211456 := by omega
        by_cases h3 : X % 18446744073709551616 % 2 = 1
        · have hl : Hid (true = shrLost h l (k + 1)) := by show _ = _; rw [lost_step h l k hh0 hl0, ← HX.out, show decide (X % 2 = 1) = true from decide_eq_true (by omega), Bool.or_true]
          go_wp2
          go_roundw
          case rel => exact ⟨k + 1, X / 2, true, by omega, by omega, by go_num, rfl, hl, by show _ = _; rw [HX.out, shr_step], hx2.1, hx2.2, world_w (by first | omega | (simp only [IntKind.wrap_u64]; omega)) (by first | omega | (simp only [IntKind.wrap_u64]; omega))⟩
          case measure => simp [intOf]; omega
        · have hl : Hid (L = shrLost h l (k + 1)) := by show _ = _; rw [lost_step h l k hh0 hl0, ← HX.out, show decide (X % 2 = 1) = false from decide_eq_false (by omega), Bool.or_false, HL.out]
          have h3' : X % 18446744073709551616 % 2 = 0 := by omega
          clear h3
          go_wp2
          go_roundw
          case rel => exact ⟨k + 1, X / 2, L, by omega, by omega, by go_num, rfl, hl, by show _ = _; rw [HX.out, shr_step], hx2.1, hx2.2, world_w (by first | omega | (simp only [IntKind.wrap_u64]; omega)) (by first | omega | (simp only [IntKind.wrap_u64]; omega))⟩
          case measure => simp [intOf]; omega
      · go_wp2
        go_returns
        have e : (k : Int) = bnd n := by unfold bnd; (repeat' split) <;> omega
        exact ⟨ret_wb (HF.out e).1 (HF.out e).2.1 (HF.out e).2.2, _, _, rfl⟩
    · go_wp2
      go_returns
      have e : (k : Int) = bnd n := by unfold bnd; (repeat' split) <;> omega
      exact ⟨ret_wb (HF.out e).1 (HF.out e).2.1 (HF.out e).2.2, _, _, rfl⟩
end Go.Proofs.YtoaggnpcmieeaaaDoor
