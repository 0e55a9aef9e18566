/- words.zeros. -/
import Derived.Test.YtmcbciaeibfgpaaLen64
set_option linter.unusedVariables false
set_option linter.unusedSimpArgs false
namespace Go.Proofs.Ytmcbciaeibfgpaa
open Go.RowKit

/-- The zeros ahead of the highest 1 of a number of two words. -/
def zer (h l : Int) : Int := if h = 0 then 128 - (Go.Lib.bitLen l.toNat : Int) else 64 - (Go.Lib.bitLen h.toNat : Int)

set_option maxHeartbeats 1000000 in
theorem zeros_any (a0 a1 : Int) (ha0 : 0 ≤ a0) (ha1 : 0 ≤ a1) (ga0 : a0 < 18446744073709551616) (ga1 : a1 < 18446744073709551616) (w : World) :
    Calls Try.prog 41 #[.agg #[.int .u64 a0, .int .u64 a1]] w fun e w' => e = .returned (.int .i64 (zer a1 a0)) ∧ Gr w w' := by
  have hl0 := Go.Lib.bitLen_le a0.toNat 64 (by omega) (by omega)
  have hl1 := Go.Lib.bitLen_le a1.toNat 64 (by omega) (by omega)
  by_cases z1 : a1 = 0
  · subst z1
    by_cases z0 : a0 = 0
    · subst z0
      go_enter Try.func41, Try.ntmps41
      go_wp2
      refine wp_loop_rounds 3 ?_
      rw [rounds_succ]; go_wp2
      rw [rounds_succ]; go_wp2
      rw [rounds_succ]; go_wp2
      go_returns
      exact ⟨ret_congr (congrArg (Value.int IntKind.i64) (by decide +kernel)), ⟨by go_grown, by go_grown⟩⟩
    · have e0 : (a0 == 0) = false := by simp [z0]
      clear z0
      go_enter Try.func41, Try.ntmps41
      go_wp2
      refine wp_loop_rounds 3 ?_
      rw [rounds_succ]; go_wp2
      rw [rounds_succ]
      go_wp2_with (go_at_call 52; refine (lz64_any _ ha0 ga0 _).mono ?_; rintro e w' ⟨rfl, rfl⟩)
      go_returns
      exact ⟨ret_congr (congrArg (Value.int IntKind.i64) (by unfold zer; rw [if_pos rfl]; omega)), ⟨by go_grown, by go_grown⟩⟩
  · have e1 : (a1 == 0) = false := by simp [z1]
    have Z1 : Hid _ := z1
    clear z1
    go_enter Try.func41, Try.ntmps41
    go_wp2
    refine wp_loop_rounds 3 ?_
    rw [rounds_succ]
    go_wp2_with (go_at_call 52; refine (lz64_any _ ha1 ga1 _).mono ?_; rintro e w' ⟨rfl, rfl⟩)
    go_returns
    exact ⟨ret_congr (congrArg (Value.int IntKind.i64) (by unfold zer; rw [if_neg Z1.out]; try omega)), ⟨by go_grown, by go_grown⟩⟩
end Go.Proofs.Ytmcbciaeibfgpaa
