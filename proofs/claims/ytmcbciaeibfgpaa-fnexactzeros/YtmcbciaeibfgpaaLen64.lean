/- math/bits.Len64, math/bits.LeadingZeros64. -/
import Derived.Test.YtmcbciaeibfgpaaBase
import Derived.Test.YtmcbciaeibfgpaaRows
import Derived.WalkKit
import Derived.Lib.BitFns
import Derived.Lib.Walk
import Derived.Lib.Small
import Derived.Lib.Strings
import Derived.Lib.Slices
set_option linter.unusedVariables false
set_option linter.unusedSimpArgs false
namespace Go.Proofs.Ytmcbciaeibfgpaa
open Go.RowKit

theorem tab_size : Go.Lib.len8tab.size = 256 := by decide +kernel
theorem tab_all : ∀ j : Fin 256, (Go.Lib.len8tab[j.val]'(by rw [tab_size]; exact j.isLt)).toNat = Go.Lib.bitLen j.val := by decide +kernel
theorem tab_get (i : Nat) (h : i < Go.Lib.len8tab.size) : (Go.Lib.len8tab[i]'h).toNat = Go.Lib.bitLen i := tab_all ⟨i, by rw [← tab_size]; exact h⟩
theorem tab_le (i : Nat) (h : i < 256) : Go.Lib.bitLen i ≤ 8 := Go.Lib.bitLen_le i 8 (by omega) (by omega)
/-- The value of one way through Len64: the number is shifted by s, what is left is below 256. -/
theorem len_way (x : Int) (s i : Nat) (c : Int) (h0 : 0 ≤ x) (h1 : x < 18446744073709551616) (hc : c = (s : Int)) (hs : s ≤ 56) (hi : i = x.toNat / 2 ^ s) (h : i < Go.Lib.len8tab.size) (hx : s = 0 ∨ 2 ^ s ≤ x.toNat) :
    wrap64 (c + wrap64 (((Go.Lib.len8tab[i]'h).toNat : Nat) : Int)) = (Go.Lib.bitLen x.toNat : Int) := by
  rw [tab_get]
  have hl := tab_le i (by rw [← tab_size]; exact h)
  have e : Go.Lib.bitLen x.toNat = s + Go.Lib.bitLen i := by
    rcases hx with rfl | hx
    · rw [hi]; simp
    · rw [hi]; exact Go.Lib.bitLen_shift s x.toNat hx (by omega)
  rw [e]
  unfold wrap64
  omega

set_option maxHeartbeats 4000000 in
set_option maxRecDepth 100000 in
theorem len64_any (x : Int) (h0 : 0 ≤ x) (h1 : x < 18446744073709551616) (w : World) :
    Calls Try.prog 56 #[.int .u64 x] w fun e w' => e = .returned (.int .i64 (Go.Lib.bitLen x.toNat)) ∧ w' = w := by
  have hsz := tab_size
  go_enter Try.func56, Try.ntmps56
  go_wp2
  all_goals (go_ret; refine ⟨ret_congr (congrArg (Value.int IntKind.i64) ?_), rfl⟩)
  all_goals first
    | exact len_way x 56 _ 56 h0 h1 rfl (by omega) (by simp only [Nat.reducePow]; omega) _ (.inr (by simp only [Nat.reducePow]; omega))
    | exact len_way x 48 _ 48 h0 h1 rfl (by omega) (by simp only [Nat.reducePow]; omega) _ (.inr (by simp only [Nat.reducePow]; omega))
    | exact len_way x 40 _ 40 h0 h1 rfl (by omega) (by simp only [Nat.reducePow]; omega) _ (.inr (by simp only [Nat.reducePow]; omega))
    | exact len_way x 32 _ 32 h0 h1 rfl (by omega) (by simp only [Nat.reducePow]; omega) _ (.inr (by simp only [Nat.reducePow]; omega))
    | exact len_way x 24 _ 24 h0 h1 rfl (by omega) (by simp only [Nat.reducePow]; omega) _ (.inr (by simp only [Nat.reducePow]; omega))
    | exact len_way x 16 _ 16 h0 h1 rfl (by omega) (by simp only [Nat.reducePow]; omega) _ (.inr (by simp only [Nat.reducePow]; omega))
    | exact len_way x 8 _ 8 h0 h1 rfl (by omega) (by simp only [Nat.reducePow]; omega) _ (.inr (by simp only [Nat.reducePow]; omega))
    | (have e := len_way x 0 x.toNat 0 h0 h1 rfl (by omega) (by simp) (by rw [tab_size]; omega) (.inl rfl); rw [Int.zero_add] at e; exact e)

theorem lz64_any (x : Int) (h0 : 0 ≤ x) (h1 : x < 18446744073709551616) (w : World) :
    Calls Try.prog 52 #[.int .u64 x] w fun e w' => e = .returned (.int .i64 (64 - (Go.Lib.bitLen x.toNat : Int))) ∧ w' = w := by
  have hl := Go.Lib.bitLen_le x.toNat 64 (by omega) (by omega)
  go_enter Try.func52, Try.ntmps52
  go_wp2_with (go_at_call 56; refine (len64_any x h0 h1 _).mono ?_; rintro e w' ⟨rfl, rfl⟩)
  go_ret
  exact ⟨rfl, rfl⟩

end Go.Proofs.Ytmcbciaeibfgpaa
