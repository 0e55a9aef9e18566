/- impl.MulWide, laws.eqWide, laws.FnExactMulWide. -/
import Derived.Test.YtlfakhjobnaidaaMul
import Derived.Test.YtlfakhjobnaidaaPlus
namespace Go.Proofs.Ytlfakhjobnaidaa
open Go.RowKit Go.Lib

theorem mul_bounds (x y : Int) (hx0 : 0 ≤ x) (hx : x < 18446744073709551616) (hy0 : 0 ≤ y) (hy : y < 18446744073709551616) : 0 ≤ x * y / 18446744073709551616 ∧ x * y / 18446744073709551616 < 18446744073709551616 := by
  have h1 : 0 ≤ x * y := Int.mul_nonneg hx0 hy0
  have h2 : x * y ≤ 18446744073709551615 * 18446744073709551615 := Int.mul_le_mul (by omega) (by omega) hy0 (by omega)
  generalize x * y = p at *
  omega

set_option maxHeartbeats 1000000 in
theorem mulWide_any (x y : Int) (hx0 : 0 ≤ x) (hx : x < 18446744073709551616) (hy0 : 0 ≤ y) (hy : y < 18446744073709551616) (w : World) :
    Calls Try.prog 9 #[.int .u64 x, .int .u64 y] w fun e w' => e = .returned (.agg #[.int .u64 (x * y / 18446744073709551616), .int .u64 (x * y % 18446744073709551616)]) ∧ Gr w w' := by
  obtain ⟨b0, b1⟩ := mul_bounds x y hx0 hx hy0 hy
  have e1 : x * y % 18446744073709551616 % 18446744073709551616 = x * y % 18446744073709551616 := by omega
  have e2 : x * y % 18446744073709551616 / 18446744073709551616 = 0 := by omega
  have e3 : x * y / 18446744073709551616 % 18446744073709551616 = x * y / 18446744073709551616 := by omega
  have e4 : x * y / 18446744073709551616 / 18446744073709551616 = 0 := by omega
  go_enter Try.func9, Try.ntmps9
  go_wp2_with (first
    | (go_at_call 27; refine (mul64_int x y hx0 hx hy0 hy _).mono ?_; rintro e w' ⟨rfl, rfl⟩)
    | (go_at_call 23; refine (plus_any 0 0 _ _ (by omega) (by omega) (by omega) (by omega) (by omega) (by omega) _).mono ?_; rintro e w1 ⟨rfl, hg⟩; have hc := hg.cells; have hf := hg.frozens; have hz := hg.size; simp only [World.size_alloc] at hz; have hz1 : w.heap.size < w1.heap.size := (by omega); have hz2 : w.heap.size + 1 < w1.heap.size := (by omega); clear hz)
    | (go_at_call 21; refine (wide_any _ _ _).mono ?_; rintro e w2 ⟨rfl, hg2⟩; have hc2 := hg2.cells; have hf2 := hg2.frozens)
    | go_in)
  have q0 : w2.cell? ⟨w.heap.size, 0, none⟩ = some (.int .u64 0) := hg2.has (by go_size) (by simp [go_sem]; exact hg.has (by go_size) (by simp [go_sem]))
  have q1 : w2.cell? ⟨w.heap.size, 1, none⟩ = some (.int .u64 0) := hg2.has (by go_size) (by simp [go_sem]; exact hg.has (by go_size) (by simp [go_sem]))
  refine bodyPost_ret (v := .agg #[.int .u64 (x * y / 18446744073709551616), .int .u64 (x * y % 18446744073709551616)]) (by simp [results, Try.results9, go_sem, q0, q1]) rfl ⟨rfl, ?_⟩
  exact (((((((Gr.refl w).alloc _ _).alloc _ _).trans hg).setCell (by go_size) _).setCell (by go_size) _).trans hg2 |>.setCell (by go_size) _).setCell (by go_size) _

theorem eqWide_same (a0 a1 : Int) (w : World) :
    Calls Try.prog 10 #[.agg #[.int .u64 a1, .int .u64 a0], .agg #[.int .u64 a1, .int .u64 a0]] w fun e w' => e = .returned (.bool true) ∧ Gr w w' := by
  go_enter Try.func10, Try.ntmps10
  go_wp2
  go_returns
  exact ⟨rfl, ⟨by go_grown, by go_grown⟩⟩

set_option maxHeartbeats 1000000 in
theorem lawMul (x y : Int) (hx0 : 0 ≤ x) (hx : x < 18446744073709551616) (hy0 : 0 ≤ y) (hy : y < 18446744073709551616) (w : World) :
    Calls Try.prog 3 #[.int .u64 x, .int .u64 y] w fun e w' => e = .returned (.bool true) ∧ Gr w w' := by
  go_enter Try.func3, Try.ntmps3
  go_wp2_with (first
    | (go_at_call 8; refine (specMul_int x y hx0 hx hy0 hy _).mono ?_; rintro e w1 ⟨rfl, c, rfl⟩)
    | (go_at_call 9; refine (mulWide_any x y hx0 hx hy0 hy _).mono ?_; rintro e w2 ⟨rfl, hg⟩; have hc := hg.cells; have hz := hg.size; simp only [World.size_alloc] at hz; have hz1 : w.heap.size + 1 < w2.heap.size := (by omega); clear hz)
    | (go_at_call 10; refine (eqWide_same _ _ _).mono ?_; rintro e w3 ⟨rfl, hg3⟩))
  go_returns
  exact ⟨rfl, ((((Gr.refl w).alloc _ _).alloc _ _).trans hg).alloc _ _ |>.trans hg3⟩
end Go.Proofs.Ytlfakhjobnaidaa
