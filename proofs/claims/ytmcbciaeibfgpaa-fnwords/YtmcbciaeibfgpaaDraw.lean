/- spec.l1Bits (64 bits), spec.l1Wide: some words. -/
import Derived.Test.YtmcbciaeibfgpaaTake
import Derived.Deep.DeepCutAuto
import Derived.Deep.Cut
set_option linter.unusedVariables false
set_option linter.unusedSimpArgs false
namespace Go.Proofs.Ytmcbciaeibfgpaa
open Go.RowKit

set_option maxHeartbeats 1000000 in
theorem bits_any (a : Option Addr) (len cap p : Nat) (w : World) (hC : CodeRow w a len) (hp : p ≤ 900) :
    Calls Try.prog 46 #[.slice a len cap, .int .i64 p, .int .i64 64] w fun e w' => ∃ (v : Int) (k : Nat), 0 ≤ v ∧ v < 18446744073709551616 ∧ k ≤ p + 10 ∧ e = .returned (.tuple #[.int .u64 v, .int .i64 k]) ∧ w = w' := by
  have HC : Hid _ := hC
  clear hC
  go_enter Try.func46, Try.ntmps46
  go_wp2_with (go_at_call 48; refine (take_any a len cap p 5 _ HC.out (by omega) (by omega) (by omega)).mono ?_; rintro e w' ⟨how, hw0, hw1, rfl, hw⟩; subst hw)
  go_loop [1, 10, 11] (fun s1 s10 s11 => ∃ (i : Nat) (v : Int), i ≤ 8 ∧ s1 = .int .i64 ((p + 1 + i : Nat) : Int) ∧ s10 = .int .u64 v ∧ 0 ≤ v ∧ v < 18446744073709551616 ∧ s11 = .int .i64 i) (fun _ _ s => 8 - (intOf s).toNat)
  case atStart => exact ⟨0, 0, by omega, by go_num, rfl, by omega, by omega, rfl⟩
  case round =>
    obtain ⟨i, v, hi, rfl, rfl, v0, v1, rfl⟩ := hrel
    by_cases hlt : (i : Int) < 8
    · rcases (show how = 0 ∨ how = 1 ∨ ((how == 0) = false ∧ (how == 1) = false) by simp; omega) with rfl | rfl | ⟨e0, e1⟩
      · rcases (show i = 0 ∨ i = 7 ∨ (0 < i ∧ i < 7) by omega) with rfl | rfl | ⟨i0, i7⟩
        · go_wp2_with (go_at_call 48; refine (take_any a len cap (p + 1 + 0) 256 _ HC.out (by omega) (by omega) (by omega)).mono ?_; rintro e w' ⟨x, x0, x1, rfl, hw⟩; subst hw)
          go_round
          case rel => exact ⟨0 + 1, IntKind.u64.wrap (IntKind.u64.wrap (v * 256) + x), by omega, by go_num, rfl, by simp only [IntKind.wrap_u64]; omega, by simp only [IntKind.wrap_u64]; omega, by go_num⟩
          case measure => simp [intOf] <;> omega
        · go_wp2_with (go_at_call 48; refine (take_any a len cap (p + 1 + 7) 256 _ HC.out (by omega) (by omega) (by omega)).mono ?_; rintro e w' ⟨x, x0, x1, rfl, hw⟩; subst hw)
          go_round
          case rel => exact ⟨7 + 1, IntKind.u64.wrap (IntKind.u64.wrap (v * 256) + x), by omega, by go_num, rfl, by simp only [IntKind.wrap_u64]; omega, by simp only [IntKind.wrap_u64]; omega, by go_num⟩
          case measure => simp [intOf] <;> omega
        · go_wp2_with (go_at_call 48; refine (take_any a len cap (p + 1 + i) 256 _ HC.out (by omega) (by omega) (by omega)).mono ?_; rintro e w' ⟨x, x0, x1, rfl, hw⟩; subst hw)
          go_round
          case rel => exact ⟨i + 1, IntKind.u64.wrap (IntKind.u64.wrap (v * 256)), by omega, by go_num, rfl, by simp only [IntKind.wrap_u64]; omega, by simp only [IntKind.wrap_u64]; omega, by go_num⟩
          case measure => simp [intOf] <;> omega
      · rcases (show i = 0 ∨ i = 7 ∨ (0 < i ∧ i < 7) by omega) with rfl | rfl | ⟨i0, i7⟩
        · go_wp2_with (go_at_call 48; refine (take_any a len cap (p + 1 + 0) 256 _ HC.out (by omega) (by omega) (by omega)).mono ?_; rintro e w' ⟨x, x0, x1, rfl, hw⟩; subst hw)
          go_round
          case rel => exact ⟨0 + 1, IntKind.u64.wrap (IntKind.u64.wrap (v * 256) + x), by omega, by go_num, rfl, by simp only [IntKind.wrap_u64]; omega, by simp only [IntKind.wrap_u64]; omega, by go_num⟩
          case measure => simp [intOf] <;> omega
        · go_wp2_with (go_at_call 48; refine (take_any a len cap (p + 1 + 7) 256 _ HC.out (by omega) (by omega) (by omega)).mono ?_; rintro e w' ⟨x, x0, x1, rfl, hw⟩; subst hw)
          go_round
          case rel => exact ⟨7 + 1, IntKind.u64.wrap (IntKind.u64.wrap (v * 256) + x), by omega, by go_num, rfl, by simp only [IntKind.wrap_u64]; omega, by simp only [IntKind.wrap_u64]; omega, by go_num⟩
          case measure => simp [intOf] <;> omega
        · go_wp2_with (go_at_call 48; refine (take_any a len cap (p + 1 + i) 256 _ HC.out (by omega) (by omega) (by omega)).mono ?_; rintro e w' ⟨x, x0, x1, rfl, hw⟩; subst hw)
          go_round
          case rel => exact ⟨i + 1, IntKind.u64.wrap (IntKind.u64.wrap (v * 256) + 255), by omega, by go_num, rfl, by simp only [IntKind.wrap_u64]; omega, by simp only [IntKind.wrap_u64]; omega, by go_num⟩
          case measure => simp [intOf] <;> omega
      · go_wp2_with (go_at_call 48; refine (take_any a len cap (p + 1 + i) 256 _ HC.out (by omega) (by omega) (by omega)).mono ?_; rintro e w' ⟨x, x0, x1, rfl, hw⟩; subst hw)
        go_round
        case rel => exact ⟨i + 1, IntKind.u64.wrap (IntKind.u64.wrap (v * 256) + x), by omega, by go_num, rfl, by simp only [IntKind.wrap_u64]; omega, by simp only [IntKind.wrap_u64]; omega, by go_num⟩
        case measure => simp [intOf] <;> omega
    · by_cases h2 : how = 2
      · subst h2
        go_wp2_with (go_at_call 48; refine (take_any a len cap (p + 1 + i) 64 _ HC.out (by omega) (by omega) (by omega)).mono ?_; rintro e w' ⟨x, x0, x1, rfl, hw⟩; subst hw)
        go_loop [10, 12] (fun s10 s12 => ∃ (j v : Int), 0 ≤ j ∧ j ≤ x ∧ s10 = .int .u64 v ∧ 0 ≤ v ∧ v < 18446744073709551616 ∧ s12 = .int .i64 j) (fun _ s => (64 - intOf s).toNat)
        case atStart => exact ⟨0, v, by omega, x0, rfl, v0, v1, rfl⟩
        case round =>
          obtain ⟨j, u, j0, j1, rfl, u0, u1, rfl⟩ := hrel
          by_cases hj : j < x
          · go_wp2
            go_round
            case rel => exact ⟨j + 1, u / 2, by omega, by omega, rfl, by omega, by omega, rfl⟩
            case measure => simp [intOf]; omega
          · go_wp2
            refine wp_loop_rounds 1 ?_
            rw [rounds_succ]
            go_wp2
            refine wp_loop_rounds 1 ?_
            rw [rounds_succ]
            go_wp2
            go_returns
            exact ⟨u, p + 1 + i + 1, u0, u1, by omega, rfl, rfl⟩
      · have e2 : (how == 2) = false := by simp [h2]
        clear h2
        go_wp2
        refine wp_loop_rounds 1 ?_
        rw [rounds_succ]
        go_wp2
        refine wp_loop_rounds 1 ?_
        rw [rounds_succ]
        go_wp2
        go_returns
        exact ⟨v, p + 1 + i, v0, v1, by omega, rfl, rfl⟩

set_option maxHeartbeats 1000000 in
theorem wideDraw_any (a : Option Addr) (len cap p : Nat) (w : World) (hC : CodeRow w a len) (hp : p ≤ 800) :
    Calls Try.prog 47 #[.slice a len cap, .int .i64 p] w fun e w' => ∃ (h l : Int) (k : Nat), 0 ≤ h ∧ h < 18446744073709551616 ∧ 0 ≤ l ∧ l < 18446744073709551616 ∧ k ≤ p + 21 ∧ e = .returned (.tuple #[.agg #[.int .u64 h, .int .u64 l], .int .i64 k]) ∧ ∃ c : Array Value, w' = w.alloc (.cells c 24) := by
  have HC : Hid (CodeRow (w.alloc (.cells #[.int .u64 0, .int .u64 0] 24)) a len) := hC.gr ((Gr.refl _).alloc _ _)
  clear hC
  go_enter Try.func47, Try.ntmps47
  go_upto_region 3 with (go_at_call 48; refine (take_any a len cap p 6 _ HC.out (by omega) (by omega) (by omega)).mono ?_; rintro e w' ⟨how, hw0, hw1, rfl, hw⟩; subst hw)
  go_upto_region 4 with (go_at_call 46; refine (bits_any a len cap (p + 1) _ HC.out (by omega)).mono ?_; rintro e w' ⟨h, k, h0, h1, hk, rfl, hw⟩; subst hw)
  go_upto_region 5 with (go_at_call 46; refine (bits_any a len cap k _ HC.out (by omega)).mono ?_; rintro e w' ⟨l, j, l0, l1, hj, rfl, hw⟩; subst hw)
  go_wp2
  all_goals go_returns
  all_goals exact ⟨_, l, j, by omega, by omega, l0, l1, by omega, rfl, _, rfl⟩
end Go.Proofs.Ytmcbciaeibfgpaa
