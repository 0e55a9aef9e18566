/- math/bits.Mul64, spec.MulWide: each number of the text under a name of its own. -/
import Derived.Test.YtmcbciaeibfgpaaRows
import Derived.WalkKit
import Derived.WalkSpells
import Derived.Laws.Bits64b
import Derived.Handy
set_option linter.unusedVariables false
set_option linter.unusedSimpArgs false
namespace Go.Proofs.Ytmcbciaeibfgpaa
open Go.RowKit

theorem mul_bounds (x y : Int) (hx0 : 0 ≤ x) (hx : x < 18446744073709551616) (hy0 : 0 ≤ y) (hy : y < 18446744073709551616) : 0 ≤ x * y / 18446744073709551616 ∧ x * y / 18446744073709551616 < 18446744073709551616 := by
  have h1 : 0 ≤ x * y := Int.mul_nonneg hx0 hy0
  have h2 : x * y ≤ 18446744073709551615 * 18446744073709551615 := Int.mul_le_mul (by omega) (by omega) hy0 (by omega)
  generalize x * y = p at *
  omega

/-- The lower half of a word. -/
theorem low32 (x : Int) (h0 : 0 ≤ x) (h1 : x < 18446744073709551616) : bits .and .u64 x 4294967295 = x % 4294967296 := by
  obtain ⟨n, rfl⟩ := Int.eq_ofNat_of_zero_le h0
  refine (bits_and_u64_nat n 4294967295 (by omega) (by omega)).trans ?_
  rw [show n &&& 4294967295 = n % 4294967296 from Nat.and_two_pow_sub_one_eq_mod n 32]
  omega

/-- The product of two words out of the four products of their halves. -/
structure Halves (x y a b c d : Int) : Prop where
  all : x * y = a * 18446744073709551616 + (b + c) * 4294967296 + d
  a0 : 0 ≤ a
  a1 : a ≤ 18446744065119617025
  b0 : 0 ≤ b
  b1 : b ≤ 18446744065119617025
  c0 : 0 ≤ c
  c1 : c ≤ 18446744065119617025
  d0 : 0 ≤ d
  d1 : d ≤ 18446744065119617025

theorem half_prod (u v : Int) (u0 : 0 ≤ u) (u1 : u < 4294967296) (v0 : 0 ≤ v) (v1 : v < 4294967296) : 0 ≤ u * v ∧ u * v ≤ 18446744065119617025 := by
  refine ⟨Int.mul_nonneg u0 v0, ?_⟩
  have := Int.mul_le_mul (show u ≤ 4294967295 by omega) (show v ≤ 4294967295 by omega) v0 (by omega)
  omega
theorem halves (x y x1 x0 y1 y0 : Int) (hx : x = x1 * 4294967296 + x0) (hy : y = y1 * 4294967296 + y0) (bx1 : 0 ≤ x1) (cx1 : x1 < 4294967296) (bx0 : 0 ≤ x0) (cx0 : x0 < 4294967296) (by1 : 0 ≤ y1) (cy1 : y1 < 4294967296) (by0 : 0 ≤ y0) (cy0 : y0 < 4294967296) :
    Halves x y (x1 * y1) (x1 * y0) (x0 * y1) (x0 * y0) := by
  obtain ⟨a0, a1⟩ := half_prod x1 y1 bx1 cx1 by1 cy1
  obtain ⟨b0, b1⟩ := half_prod x1 y0 bx1 cx1 by0 cy0
  obtain ⟨c0, c1⟩ := half_prod x0 y1 bx0 cx0 by1 cy1
  obtain ⟨d0, d1⟩ := half_prod x0 y0 bx0 cx0 by0 cy0
  refine ⟨?_, a0, a1, b0, b1, c0, c1, d0, d1⟩
  rw [hx, hy, Int.add_mul, Int.mul_add, Int.mul_add, Int.mul_right_comm x1 4294967296 y0, ← Int.mul_assoc x0 y1, ← Int.mul_assoc (x1 * 4294967296) y1, Int.mul_right_comm x1 4294967296 y1]
  generalize x1 * y1 = a
  generalize x1 * y0 = b
  generalize x0 * y1 = c
  generalize x0 * y0 = d
  omega

theorem ret_uu {a a' b b' : Int} (h1 : a = a') (h2 : b = b') : Ending.returned (.tuple #[.int .u64 a, .int .u64 b]) = .returned (.tuple #[.int .u64 a', .int .u64 b']) := by rw [h1, h2]
theorem ret_ww {a a' b b' : Int} (h1 : a = a') (h2 : b = b') : Ending.returned (.agg #[.int .u64 a, .int .u64 b]) = .returned (.agg #[.int .u64 a', .int .u64 b']) := by rw [h1, h2]

set_option maxHeartbeats 1000000 in
theorem mul64_int (x y : Int) (hx0 : 0 ≤ x) (hx : x < 18446744073709551616) (hy0 : 0 ≤ y) (hy : y < 18446744073709551616) (w : World) :
    Calls Try.prog 49 #[.int .u64 x, .int .u64 y] w fun e w' => e = .returned (.tuple #[.int .u64 (x * y / 18446744073709551616), .int .u64 (x * y % 18446744073709551616)]) ∧ w' = w := by
  have la := low32 x hx0 hx
  have lb := low32 y hy0 hy
  obtain ⟨x1, hx1⟩ : ∃ v, x / 4294967296 = v := ⟨_, rfl⟩
  obtain ⟨x0, hxl⟩ : ∃ v, x % 4294967296 = v := ⟨_, rfl⟩
  obtain ⟨y1, hy1⟩ : ∃ v, y / 4294967296 = v := ⟨_, rfl⟩
  obtain ⟨y0, hyl⟩ : ∃ v, y % 4294967296 = v := ⟨_, rfl⟩
  rw [hxl] at la
  rw [hyl] at lb
  obtain ⟨eq, a0, a1, b0, b1, c0, c1, d0, d1⟩ := halves x y x1 x0 y1 y0 (by omega) (by omega) (by omega) (by omega) (by omega) (by omega) (by omega) (by omega) (by omega) (by omega)
  obtain ⟨a, ha⟩ : ∃ v, x1 * y1 = v := ⟨_, rfl⟩
  obtain ⟨b, hb⟩ : ∃ v, x1 * y0 = v := ⟨_, rfl⟩
  obtain ⟨c, hc⟩ : ∃ v, x0 * y1 = v := ⟨_, rfl⟩
  obtain ⟨d, hd⟩ : ∃ v, x0 * y0 = v := ⟨_, rfl⟩
  rw [ha, hb, hc, hd] at eq
  rw [ha] at a0 a1
  rw [hb] at b0 b1
  rw [hc] at c0 c1
  rw [hd] at d0 d1
  obtain ⟨t, ht⟩ : ∃ v, b + d / 4294967296 = v := ⟨_, rfl⟩
  have lt := low32 t (by omega) (by omega)
  have t0 : 0 ≤ t := by omega
  have t1 : t < 18446744073709551616 := by omega
  have E : Hid _ := eq
  have hT : Hid (b + d / 4294967296 = t) := ht
  clear eq hxl hyl
  go_enter Try.func49, Try.ntmps49
  go_wp2
  go_ret2
  have e := E.out
  have f := hT.out
  generalize x * y = p at *
  refine ⟨ret_uu ?_ ?_, rfl⟩
  · omega
  · first | omega | (simp only [IntKind.wrap_u64]; done) | (simp only [IntKind.wrap_u64]; omega)

set_option maxHeartbeats 1000000 in
theorem specMul_int (x y : Int) (hx0 : 0 ≤ x) (hx : x < 18446744073709551616) (hy0 : 0 ≤ y) (hy : y < 18446744073709551616) (w : World) :
    Calls Try.prog 12 #[.int .u64 x, .int .u64 y] w fun e w' => e = .returned (.agg #[.int .u64 (x * y / 18446744073709551616), .int .u64 (x * y % 18446744073709551616)]) ∧ ∃ c : Array Value, w' = w.alloc (.cells c 24) := by
  obtain ⟨x1, hx1⟩ : ∃ v, x / 4294967296 = v := ⟨_, rfl⟩
  obtain ⟨x0, hxl⟩ : ∃ v, x % 4294967296 = v := ⟨_, rfl⟩
  obtain ⟨y1, hy1⟩ : ∃ v, y / 4294967296 = v := ⟨_, rfl⟩
  obtain ⟨y0, hyl⟩ : ∃ v, y % 4294967296 = v := ⟨_, rfl⟩
  obtain ⟨eq, a0, a1, b0, b1, c0, c1, d0, d1⟩ := halves x y x1 x0 y1 y0 (by omega) (by omega) (by omega) (by omega) (by omega) (by omega) (by omega) (by omega) (by omega) (by omega)
  obtain ⟨a, ha⟩ : ∃ v, x1 * y1 = v := ⟨_, rfl⟩
  obtain ⟨b, hb⟩ : ∃ v, x1 * y0 = v := ⟨_, rfl⟩
  obtain ⟨c, hc⟩ : ∃ v, x0 * y1 = v := ⟨_, rfl⟩
  obtain ⟨d, hd⟩ : ∃ v, x0 * y0 = v := ⟨_, rfl⟩
  rw [ha, hb, hc, hd] at eq
  rw [ha] at a0 a1
  rw [hb] at b0 b1
  rw [hc] at c0 c1
  rw [hd] at d0 d1
  have E : Hid _ := eq
  clear eq
  go_enter Try.func12, Try.ntmps12
  go_wp2
  go_returns
  have e := E.out
  generalize x * y = p at *
  refine ⟨ret_ww ?_ ?_, _, rfl⟩
  · first | omega | (simp only [IntKind.wrap_u64]; done) | (simp only [IntKind.wrap_u64]; omega)
  · first | omega | (simp only [IntKind.wrap_u64]; done) | (simp only [IntKind.wrap_u64]; omega)
end Go.Proofs.Ytmcbciaeibfgpaa
