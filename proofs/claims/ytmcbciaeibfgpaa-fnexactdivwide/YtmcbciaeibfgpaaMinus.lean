/- math/bits.Sub64 (the model's own entry), words.minus, words.below. -/
import Derived.Test.YtmcbciaeibfgpaaBase
import Derived.Test.YtmcbciaeibfgpaaRows
import Derived.WalkSpells
import Derived.Laws.Externs
import Derived.Shelf.Spec.BitsCarry
import Derived.Deep.RegionHeld3
set_option linter.unusedVariables false
set_option linter.unusedSimpArgs false
namespace Go.Proofs.Ytmcbciaeibfgpaa
open Go.RowKit

def bor (x y : Int) : Int := if x < y then 1 else 0
theorem bor_le (x y : Int) : bor x y ≤ 1 := by unfold bor; split <;> omega
theorem bor_ge (x y : Int) : 0 ≤ bor x y := by unfold bor; split <;> omega

theorem sub64 (x y b : Int) (hx : 0 ≤ x) (hy : 0 ≤ y) (hy' : y < 18446744073709551616) (hb0 : 0 ≤ b) (hb : b ≤ 1) (w : World) : (callFunc 53 #[.int .u64 x, .int .u64 y, .int .u64 b]).run Try.prog w =
    .ok (.value (.tuple #[.int .u64 ((x - y - b) % 18446744073709551616), .int .u64 (bor x (y + b))])) w := by
  obtain ⟨x, rfl⟩ := Int.eq_ofNat_of_zero_le hx
  obtain ⟨y, rfl⟩ := Int.eq_ofNat_of_zero_le hy
  obtain ⟨b, rfl⟩ := Int.eq_ofNat_of_zero_le hb0
  rw [run_callFunc_extern Try.func53 (by kernel_rfl) (by kernel_rfl) (by kernel_rfl) (e := sub64Entry) (by kernel_rfl), run_sub64 x y b (by omega)]
  have e1 : (((x + 18446744073709551616 - y - b) % 18446744073709551616 : Nat) : Int) = ((x : Int) - y - b) % 18446744073709551616 := by omega
  have e2 : ((if x < y + b then 1 else 0 : Nat) : Int) = bor x (y + b) := by unfold bor; split <;> split <;> omega
  rw [← e1, ← e2]
  rfl
theorem sub64_0 (x y : Int) (hx : 0 ≤ x) (hy : 0 ≤ y) (hy' : y < 18446744073709551616) (w : World) : (callFunc 53 #[.int .u64 x, .int .u64 y, .int .u64 0]).run Try.prog w =
    .ok (.value (.tuple #[.int .u64 ((x - y) % 18446744073709551616), .int .u64 (bor x y)])) w := by
  simpa using sub64 x y 0 hx hy hy' (Int.le_refl 0) (by decide) w

set_option maxHeartbeats 1000000 in
theorem minus_any (a0 a1 b0 b1 : Int) (ha0 : 0 ≤ a0) (ha1 : 0 ≤ a1) (hb0 : 0 ≤ b0) (hb1 : 0 ≤ b1) (gb0 : b0 < 18446744073709551616) (gb1 : b1 < 18446744073709551616) (w : World) :
    Calls Try.prog 43 #[.agg #[.int .u64 a0, .int .u64 a1], .agg #[.int .u64 b0, .int .u64 b1]] w fun e w' =>
      e = .returned (.tuple #[.agg #[.int .u64 ((a0 - b0) % 18446744073709551616), .int .u64 ((a1 - b1 - bor a0 b0) % 18446744073709551616)],
        .bool (bor a1 (b1 + bor a0 b0) != 0)]) ∧ ∃ c1 c2 c3 c4 : Array Value, w' = ((((w.alloc (.cells c1 52)).alloc (.cells c2 52)).alloc (.cells c3 52)).alloc (.cells c4 52)).drew.drew := by
  have k0 := bor_ge a0 b0
  have k1 := bor_le a0 b0
  go_enter Try.func43, Try.ntmps43
  go_wp2
  refine wp_loop_rounds 3 ?_
  rw [rounds_succ]
  go_wp2
  go_region_with (simp only [sub64_0 a0 b0 ha0 hb0 gb0])
  all_goals (go_wp2; rw [rounds_succ]; go_wp2; go_region_with (simp only [sub64 a1 b1 _ ha1 hb1 gb1 k0 k1]))
  all_goals (go_wp2; rw [rounds_succ]; go_wp2; go_returns; exact ⟨rfl, _, _, _, _, rfl⟩)

/-- Less, by words. -/
def lt2 (a1 a0 b1 b0 : Int) : Bool := bor a1 (b1 + bor a0 b0) != 0
theorem lt2_iff (a1 a0 b1 b0 : Int) (ha0 : 0 ≤ a0) (hb0 : 0 ≤ b0) (ga0 : a0 < 18446744073709551616) (gb0 : b0 < 18446744073709551616) : lt2 a1 a0 b1 b0 = decide (a1 * 18446744073709551616 + a0 < b1 * 18446744073709551616 + b0) := by
  unfold lt2 bor
  rw [Bool.eq_iff_iff]
  simp only [bne_iff_ne, ne_eq, decide_eq_true_eq]
  split <;> split <;> omega
end Go.Proofs.Ytmcbciaeibfgpaa
