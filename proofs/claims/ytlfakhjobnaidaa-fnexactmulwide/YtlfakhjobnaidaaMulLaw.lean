/- impl.MulWide, laws.eqWide, laws.FnExactMulWide. -/
import Derived.Test.YtlfakhjobnaidaaMul
import Derived.Test.YtlfakhjobnaidaaAdd
namespace Go.Proofs.Ytlfakhjobnaidaa
open Go.RowKit Go.Lib

theorem mul_bounds (x y : Int) (hx0 : 0 ≤ x) (hx : x < 18446744073709551616) (hy0 : 0 ≤ y) (hy : y < 18446744073709551616) : 0 ≤ x * y / 18446744073709551616 ∧ x * y / 18446744073709551616 < 18446744073709551616 := by
  have h1 : 0 ≤ x * y := Int.mul_nonneg hx0 hy0
  have h2 : x * y ≤ 18446744073709551615 * 18446744073709551615 := Int.mul_le_mul (by omega) (by omega) hy0 (by omega)
  generalize x * y = p at *
  omega

set_option maxHeartbeats 1000000 in
theorem mulWide_any (x y : Int) (hx0 : 0 ≤ x) (hx : x < 18446744073709551616) (hy0 : 0 ≤ y) (hy : y < 18446744073709551616) (w : World) :
    Calls Try.prog 9 #[.int .u64 x, .int .u64 y] w fun e w' => e = .returned (.agg #[.int .u64 (x * y / 18446744073709551616), .int .u64 (x * y % 18446744073709551616)]) ∧ Gr w w' := by
  obtain ⟨b0, b1⟩ := mul_bounds x y hx0 hx hy0 hy
  have e1 : x * y % 18446744073709551616 % 18446744073709551616 = x * y % 18446744073709551616 := by omega
  have e2 : x * y % 18446744073709551616 / 18446744073709551616 = 0 := by omega
  have e3 : x * y / 18446744073709551616 % 18446744073709551616 = x * y / 18446744073709551616 := by omega
  have e4 : x * y / 18446744073709551616 / 18446744073709551616 = 0 := by omega
  go_enter Try.func9, Try.ntmps9
  go_wp2_with (first
    | (go_at_call 27; refine (mul64_int x y hx0 hx hy0 hy _).mono ?_; rintro e w' ⟨rfl, rfl⟩)
    | (go_at_call 23; refine (plus_any 0 0 _ _ (by omega) (by omega) (by omega) (by omega) (by omega) (by omega) _).mono ?_; rintro e w1 ⟨rfl, d1, d2, d3, d4, rfl⟩)
    | (go_at_call 21; refine (wide_any _ _ _).mono ?_; rintro e w2 ⟨rfl, f1, f2, rfl⟩)
    | go_in)
  go_returns
  exact ⟨rfl, ⟨by go_grown, by go_grown⟩⟩

set_option maxHeartbeats 1000000 in
theorem lawMul (x y : Int) (hx0 : 0 ≤ x) (hx : x < 18446744073709551616) (hy0 : 0 ≤ y) (hy : y < 18446744073709551616) (w : World) :
    Calls Try.prog 3 #[.int .u64 x, .int .u64 y] w fun e w' => e = .returned (.bool true) ∧ Gr w w' := by
  go_enter Try.func3, Try.ntmps3
  go_wp2_with (first
    | (go_at_call 8; refine (specMul_int x y hx0 hx hy0 hy _).mono ?_; rintro e w1 ⟨rfl, c, rfl⟩)
    | (go_at_call 9; refine (mulWide_any x y hx0 hx hy0 hy _).mono ?_; rintro e w2 ⟨rfl, hg⟩; have hc := hg.cells; have hz := hg.size; simp only [World.size_alloc] at hz; have hz1 : w.heap.size + 1 < w2.heap.size := (by omega); clear hz)
    | (go_at_call 10; refine (eqWide_same _ _ _).mono ?_; rintro e w3 ⟨rfl, hg3⟩))
  go_returns
  exact ⟨rfl, ((((Gr.refl w).alloc _ _).alloc _ _).trans hg).alloc _ _ |>.trans hg3⟩
end Go.Proofs.Ytlfakhjobnaidaa
