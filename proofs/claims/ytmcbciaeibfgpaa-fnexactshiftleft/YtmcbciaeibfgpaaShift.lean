/- impl.boundDistance, words.left, words.right. -/
import Derived.Test.YtmcbciaeibfgpaaBase
import Derived.Test.YtmcbciaeibfgpaaRows
import Derived.Test.YtmcbciaeibfgpaaShiftMath
import Derived.Test.YtmcbciaeibfgpaaBnd
import Derived.WalkLawsBesides
import Derived.Laws.Bits64b
import Derived.Deep.DeepCutAuto
set_option linter.unusedVariables false
set_option linter.unusedSimpArgs false
namespace Go.Proofs.Ytmcbciaeibfgpaa
open Go.RowKit


theorem bound_any (n : Int) (w : World) :
    Calls Try.prog 51 #[.int .i64 n] w fun e w' => e = .returned (.int .i64 (bnd n)) ∧ w' = w := by
  go_enter Try.func51, Try.ntmps51
  go_wp2
  all_goals go_returns
  all_goals (refine ⟨?_, rfl⟩; refine ret_congr ?_; refine congrArg (Value.int IntKind.i64) ?_; unfold bnd; (repeat' split) <;> omega)

set_option maxHeartbeats 1000000 in
theorem left_lo (a0 a1 n : Int) (k : Nat) (hn : bnd n = (k : Int)) (h1 : k < 64) (ha0 : 0 ≤ a0) (ha1 : 0 ≤ a1) (ga0 : a0 < 18446744073709551616) (ga1 : a1 < 18446744073709551616) (w : World) :
    Calls Try.prog 39 #[.agg #[.int .u64 a0, .int .u64 a1], .int .i64 n] w fun e w' => e = .returned (.agg #[.int .u64 (shlLo a1 a0 k), .int .u64 (shlHi a1 a0 k)]) ∧ Gr w w' := by
  have HM : Hid (_ ∧ _) := shl_lo_lo a0 a1 k h1 ha0 ha1 ga0 ga1
  have H := bound_any n
  rw [hn] at H
  have hs : (k : Int) / 64 = 0 := by omega
  have hs' : (k : Int) % 64 = k := by omega
  clear hn
  go_enter Try.func39, Try.ntmps39
  go_wp2_with (go_at_call 51; refine (H _).mono ?_; rintro e w' ⟨rfl, rfl⟩)
  clear H
  refine wp_loop_rounds 3 ?_
  rw [rounds_succ]
  go_wp2
  rw [rounds_succ]
  go_wp2
  go_region
  go_wp2
  rw [rounds_succ]
  go_wp2
  go_returns
  exact ⟨ret_w (HM.out.1) (HM.out.2), ⟨by go_grown, by go_grown⟩⟩

set_option maxHeartbeats 1000000 in
theorem left_mid (a0 a1 n : Int) (k : Nat) (j : Nat) (hn : bnd n = (k : Int)) (hk : k = 64 + j) (hj : j < 64) (ha0 : 0 ≤ a0) (ha1 : 0 ≤ a1) (ga0 : a0 < 18446744073709551616) (ga1 : a1 < 18446744073709551616) (w : World) :
    Calls Try.prog 39 #[.agg #[.int .u64 a0, .int .u64 a1], .int .i64 n] w fun e w' => e = .returned (.agg #[.int .u64 (shlLo a1 a0 k), .int .u64 (shlHi a1 a0 k)]) ∧ Gr w w' := by
  have HM : Hid (_ ∧ _) := shl_hi_hi a0 a1 j k hk ha0 ha1
  have H := bound_any n
  rw [hn] at H
  have hs : (k : Int) / 64 = 1 := by omega
  have hs' : (k : Int) % 64 = j := by omega
  clear hk
  clear hn
  go_enter Try.func39, Try.ntmps39
  go_wp2_with (go_at_call 51; refine (H _).mono ?_; rintro e w' ⟨rfl, rfl⟩)
  clear H
  refine wp_loop_rounds 3 ?_
  rw [rounds_succ]
  go_wp2
  rw [rounds_succ]
  go_wp2
  go_returns
  exact ⟨ret_w (HM.out.2) (HM.out.1), ⟨by go_grown, by go_grown⟩⟩

set_option maxHeartbeats 1000000 in
theorem right_lo (a0 a1 n : Int) (k : Nat) (hn : bnd n = (k : Int)) (h1 : k < 64) (ha0 : 0 ≤ a0) (ha1 : 0 ≤ a1) (ga0 : a0 < 18446744073709551616) (ga1 : a1 < 18446744073709551616) (w : World) :
    Calls Try.prog 40 #[.agg #[.int .u64 a0, .int .u64 a1], .int .i64 n] w fun e w' => e = .returned (.agg #[.int .u64 (shrLo a1 a0 k), .int .u64 (shrHi a1 a0 k)]) ∧ Gr w w' := by
  have HM : Hid (_ ∧ _) := shr_lo_lo a0 a1 k h1 ha0 ha1 ga0 ga1
  have H := bound_any n
  rw [hn] at H
  have hs : (k : Int) / 64 = 0 := by omega
  have hs' : (k : Int) % 64 = k := by omega
  clear hn
  go_enter Try.func40, Try.ntmps40
  go_wp2_with (go_at_call 51; refine (H _).mono ?_; rintro e w' ⟨rfl, rfl⟩)
  clear H
  refine wp_loop_rounds 3 ?_
  rw [rounds_succ]
  go_wp2
  go_region
  go_wp2
  rw [rounds_succ]
  go_wp2
  rw [rounds_succ]
  go_wp2
  go_returns
  exact ⟨ret_w (HM.out.1) (HM.out.2), ⟨by go_grown, by go_grown⟩⟩

set_option maxHeartbeats 1000000 in
theorem right_mid (a0 a1 n : Int) (k : Nat) (j : Nat) (hn : bnd n = (k : Int)) (hk : k = 64 + j) (hj : j < 64) (ha0 : 0 ≤ a0) (ha1 : 0 ≤ a1) (ga0 : a0 < 18446744073709551616) (ga1 : a1 < 18446744073709551616) (w : World) :
    Calls Try.prog 40 #[.agg #[.int .u64 a0, .int .u64 a1], .int .i64 n] w fun e w' => e = .returned (.agg #[.int .u64 (shrLo a1 a0 k), .int .u64 (shrHi a1 a0 k)]) ∧ Gr w w' := by
  have HM : Hid (_ ∧ _) := shr_hi_hi a0 a1 j k hk ha0 ha1 ga0 ga1
  have H := bound_any n
  rw [hn] at H
  have hs : (k : Int) / 64 = 1 := by omega
  have hs' : (k : Int) % 64 = j := by omega
  clear hk
  clear hn
  go_enter Try.func40, Try.ntmps40
  go_wp2_with (go_at_call 51; refine (H _).mono ?_; rintro e w' ⟨rfl, rfl⟩)
  clear H
  refine wp_loop_rounds 3 ?_
  rw [rounds_succ]
  go_wp2
  rw [rounds_succ]
  go_wp2
  go_returns
  exact ⟨ret_w (HM.out.1) (HM.out.2), ⟨by go_grown, by go_grown⟩⟩

theorem shl_128 (a0 a1 : Int) (ha0 : 0 ≤ a0) (ha1 : 0 ≤ a1) : 0 = shlLo a1 a0 128 ∧ 0 = shlHi a1 a0 128 := by
  have e : (2 : Int) ^ 128 = 340282366920938463463374607431768211456 := by decide
  unfold shlLo shlHi; rw [e]; omega
theorem shr_128 (a0 a1 : Int) (ha0 : 0 ≤ a0) (ha1 : 0 ≤ a1) (ga0 : a0 < 18446744073709551616) (ga1 : a1 < 18446744073709551616) : 0 = shrLo a1 a0 128 ∧ 0 = shrHi a1 a0 128 := by
  have e : (2 : Int) ^ 128 = 340282366920938463463374607431768211456 := by decide
  unfold shrLo shrHi; rw [e]; omega

set_option maxHeartbeats 1000000 in
theorem left_end (a0 a1 n : Int) (k : Nat) (hn : bnd n = (k : Int)) (hk : k = 128) (ha0 : 0 ≤ a0) (ha1 : 0 ≤ a1) (ga0 : a0 < 18446744073709551616) (ga1 : a1 < 18446744073709551616) (w : World) :
    Calls Try.prog 39 #[.agg #[.int .u64 a0, .int .u64 a1], .int .i64 n] w fun e w' => e = .returned (.agg #[.int .u64 (shlLo a1 a0 k), .int .u64 (shlHi a1 a0 k)]) ∧ Gr w w' := by
  have HM : Hid (_ ∧ _) := shl_128 a0 a1 ha0 ha1
  have H := bound_any n
  rw [hn] at H
  subst hk
  clear hn
  go_enter Try.func39, Try.ntmps39
  go_wp2_with (go_at_call 51; refine (H _).mono ?_; rintro e w' ⟨rfl, rfl⟩)
  clear H
  refine wp_loop_rounds 3 ?_
  rw [rounds_succ]
  go_wp2
  go_returns
  exact ⟨ret_w (HM.out.1) (HM.out.2), ⟨by go_grown, by go_grown⟩⟩

set_option maxHeartbeats 1000000 in
theorem right_end (a0 a1 n : Int) (k : Nat) (hn : bnd n = (k : Int)) (hk : k = 128) (ha0 : 0 ≤ a0) (ha1 : 0 ≤ a1) (ga0 : a0 < 18446744073709551616) (ga1 : a1 < 18446744073709551616) (w : World) :
    Calls Try.prog 40 #[.agg #[.int .u64 a0, .int .u64 a1], .int .i64 n] w fun e w' => e = .returned (.agg #[.int .u64 (shrLo a1 a0 k), .int .u64 (shrHi a1 a0 k)]) ∧ Gr w w' := by
  have HM : Hid (_ ∧ _) := shr_128 a0 a1 ha0 ha1 ga0 ga1
  have H := bound_any n
  rw [hn] at H
  subst hk
  clear hn
  go_enter Try.func40, Try.ntmps40
  go_wp2_with (go_at_call 51; refine (H _).mono ?_; rintro e w' ⟨rfl, rfl⟩)
  clear H
  refine wp_loop_rounds 3 ?_
  rw [rounds_succ]
  go_wp2
  go_returns
  exact ⟨ret_w (HM.out.1) (HM.out.2), ⟨by go_grown, by go_grown⟩⟩

theorem left_any (a0 a1 n : Int) (ha0 : 0 ≤ a0) (ha1 : 0 ≤ a1) (ga0 : a0 < 18446744073709551616) (ga1 : a1 < 18446744073709551616) (w : World) :
    Calls Try.prog 39 #[.agg #[.int .u64 a0, .int .u64 a1], .int .i64 n] w fun e w' => e = .returned (.agg #[.int .u64 (shlLo a1 a0 (bnd n).toNat), .int .u64 (shlHi a1 a0 (bnd n).toNat)]) ∧ Gr w w' := by
  have hb : 0 ≤ bnd n ∧ bnd n ≤ 128 := by unfold bnd; (repeat' split) <;> omega
  obtain ⟨k, hk⟩ := Int.eq_ofNat_of_zero_le hb.1
  have ek : (bnd n).toNat = k := by omega
  rw [ek]
  rcases Nat.lt_or_ge k 64 with h | h
  · exact left_lo a0 a1 n k hk h ha0 ha1 ga0 ga1 w
  · rcases Nat.lt_or_ge k 128 with h' | h'
    · exact left_mid a0 a1 n k (k - 64) hk (by omega) (by omega) ha0 ha1 ga0 ga1 w
    · exact left_end a0 a1 n k hk (by omega) ha0 ha1 ga0 ga1 w

theorem right_any (a0 a1 n : Int) (ha0 : 0 ≤ a0) (ha1 : 0 ≤ a1) (ga0 : a0 < 18446744073709551616) (ga1 : a1 < 18446744073709551616) (w : World) :
    Calls Try.prog 40 #[.agg #[.int .u64 a0, .int .u64 a1], .int .i64 n] w fun e w' => e = .returned (.agg #[.int .u64 (shrLo a1 a0 (bnd n).toNat), .int .u64 (shrHi a1 a0 (bnd n).toNat)]) ∧ Gr w w' := by
  have hb : 0 ≤ bnd n ∧ bnd n ≤ 128 := by unfold bnd; (repeat' split) <;> omega
  obtain ⟨k, hk⟩ := Int.eq_ofNat_of_zero_le hb.1
  have ek : (bnd n).toNat = k := by omega
  rw [ek]
  rcases Nat.lt_or_ge k 64 with h | h
  · exact right_lo a0 a1 n k hk h ha0 ha1 ga0 ga1 w
  · rcases Nat.lt_or_ge k 128 with h' | h'
    · exact right_mid a0 a1 n k (k - 64) hk (by omega) (by omega) ha0 ha1 ga0 ga1 w
    · exact right_end a0 a1 n k hk (by omega) ha0 ha1 ga0 ga1 w
end Go.Proofs.Ytmcbciaeibfgpaa
