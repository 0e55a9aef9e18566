/- spec.MulWide: each number of the text under a name of its own. -/
import Derived.Test.YtfhbhghifeefeaaDoorMulJ
set_option linter.unusedVariables false
set_option linter.unusedSimpArgs false
namespace Go.Proofs.YtfhbhghifeefeaaDoor
open Go.RowKit
set_option maxHeartbeats 1000000 in
theorem specMul_int (x y : Int) (hx0 : 0 ≤ x) (hx : x < 18446744073709551616) (hy0 : 0 ≤ y) (hy : y < 18446744073709551616) (w : World) :
    Calls Tryd.prog 21 #[.int .u64 x, .int .u64 y] w fun e w' => e = .returned (.agg #[.int .u64 (x * y / 18446744073709551616), .int .u64 (x * y % 18446744073709551616)]) ∧ ∃ c : Array Value, w' = w.alloc (.cells c 41) := by
  obtain ⟨x1, hx1⟩ : ∃ v, x / 4294967296 = v := ⟨_, rfl⟩
  obtain ⟨x0, hxl⟩ : ∃ v, x % 4294967296 = v := ⟨_, rfl⟩
  obtain ⟨y1, hy1⟩ : ∃ v, y / 4294967296 = v := ⟨_, rfl⟩
  obtain ⟨y0, hyl⟩ : ∃ v, y % 4294967296 = v := ⟨_, rfl⟩
  obtain ⟨eq, a0, a1, b0, b1, c0, c1, d0, d1⟩ := halves x y x1 x0 y1 y0 (by omega) (by omega) (by omega) (by omega) (by omega) (by omega) (by omega) (by omega) (by omega) (by omega)
  obtain ⟨a, ha⟩ : ∃ v, x1 * y1 = v := ⟨_, rfl⟩
  obtain ⟨b, hb⟩ : ∃ v, x1 * y0 = v := ⟨_, rfl⟩
  obtain ⟨c, hc⟩ : ∃ v, x0 * y1 = v := ⟨_, rfl⟩
  obtain ⟨d, hd⟩ : ∃ v, x0 * y0 = v := ⟨_, rfl⟩
  rw [ha, hb, hc, hd] at eq
  rw [ha] at a0 a1
  rw [hb] at b0 b1
  rw [hc] at c0 c1
  rw [hd] at d0 d1
  have E : Hid _ := eq
  clear eq
  go_enter Tryd.func21, Tryd.ntmps21
  go_wp2
  go_returns
  have e := E.out
  generalize x * y = p at *
  refine ⟨ret_ww ?_ ?_, _, rfl⟩
  · first | omega | (simp only [IntKind.wrap_u64]; done) | (simp only [IntKind.wrap_u64]; omega)
  · first | omega | (simp only [IntKind.wrap_u64]; done) | (simp only [IntKind.wrap_u64]; omega)
end Go.Proofs.YtfhbhghifeefeaaDoor
