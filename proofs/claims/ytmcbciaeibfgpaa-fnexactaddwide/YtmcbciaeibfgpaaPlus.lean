/- Contracts: math/bits.Add64 (the model's own entry), impl.words.plus. -/
import Derived.Test.YtmcbciaeibfgpaaRows
import Derived.WalkKit
import Derived.WalkSpells
import Derived.Laws.Externs
import Derived.Handy
import Derived.Deep.RegionHeld3
namespace Go.Proofs.Ytmcbciaeibfgpaa
open Go.RowKit

theorem add64 (x y c : Int) (hx : 0 ≤ x) (hy : 0 ≤ y) (hc0 : 0 ≤ c) (hc : c ≤ 1) (w : World) : (callFunc 50 #[.int .u64 x, .int .u64 y, .int .u64 c]).run Try.prog w =
    .ok (.value (.tuple #[.int .u64 ((x + y + c) % 18446744073709551616), .int .u64 ((x + y + c) / 18446744073709551616)])) w := by
  rw [run_callFunc_extern Try.func50 (by kernel_rfl) (by kernel_rfl) (by kernel_rfl) (e := add64Entry) (by kernel_rfl), run_add64 x y c hx hy hc0 hc]
  rfl
theorem add64_0 (x y : Int) (hx : 0 ≤ x) (hy : 0 ≤ y) (w : World) : (callFunc 50 #[.int .u64 x, .int .u64 y, .int .u64 0]).run Try.prog w =
    .ok (.value (.tuple #[.int .u64 ((x + y) % 18446744073709551616), .int .u64 ((x + y) / 18446744073709551616)])) w := by
  simpa using add64 x y 0 hx hy (Int.le_refl 0) (by decide) w

set_option maxHeartbeats 1000000 in
theorem plus_any (a0 a1 b0 b1 : Int) (ha0 : 0 ≤ a0) (ha1 : 0 ≤ a1) (hb0 : 0 ≤ b0) (hb1 : 0 ≤ b1) (ga0 : a0 < 18446744073709551616) (gb0 : b0 < 18446744073709551616) (w : World) :
    Calls Try.prog 38 #[.agg #[.int .u64 a0, .int .u64 a1], .agg #[.int .u64 b0, .int .u64 b1]] w fun e w' =>
      e = .returned (.tuple #[.agg #[.int .u64 ((a0 + b0) % 18446744073709551616), .int .u64 ((a1 + b1 + (a0 + b0) / 18446744073709551616) % 18446744073709551616)],
        .bool ((a1 + b1 + (a0 + b0) / 18446744073709551616) / 18446744073709551616 != 0)]) ∧ ∃ c1 c2 c3 c4 : Array Value, w' = ((((w.alloc (.cells c1 52)).alloc (.cells c2 52)).alloc (.cells c3 52)).alloc (.cells c4 52)).drew.drew := by
  have k0 : 0 ≤ (a0 + b0) / 18446744073709551616 := by omega
  have k1 : (a0 + b0) / 18446744073709551616 ≤ 1 := by omega
  go_enter Try.func38, Try.ntmps38
  go_wp2
  refine wp_loop_rounds 3 ?_
  rw [rounds_succ]
  go_wp2
  go_region_with (simp only [add64_0 a0 b0 ha0 hb0])
  all_goals (go_wp2; rw [rounds_succ]; go_wp2; go_region_with (simp only [add64 a1 b1 _ ha1 hb1 k0 k1]))
  all_goals (go_wp2; rw [rounds_succ]; go_wp2; go_returns; exact ⟨rfl, _, _, _, _, rfl⟩)

end Go.Proofs.Ytmcbciaeibfgpaa
