/- impl.MulWide. -/
import Derived.Test.YtmcbciaeibfgpaaMul
import Derived.Test.YtmcbciaeibfgpaaPlus
import Derived.Test.YtmcbciaeibfgpaaWords
namespace Go.Proofs.Ytmcbciaeibfgpaa
open Go.RowKit

set_option maxHeartbeats 1000000 in
theorem mulWide_any (x y : Int) (hx0 : 0 ≤ x) (hx : x < 18446744073709551616) (hy0 : 0 ≤ y) (hy : y < 18446744073709551616) (w : World) :
    Calls Try.prog 13 #[.int .u64 x, .int .u64 y] w fun e w' => e = .returned (.agg #[.int .u64 (x * y / 18446744073709551616), .int .u64 (x * y % 18446744073709551616)]) ∧ Gr w w' := by
  obtain ⟨b0, b1⟩ := mul_bounds x y hx0 hx hy0 hy
  have e1 : x * y % 18446744073709551616 % 18446744073709551616 = x * y % 18446744073709551616 := by omega
  have e2 : x * y % 18446744073709551616 / 18446744073709551616 = 0 := by omega
  have e3 : x * y / 18446744073709551616 % 18446744073709551616 = x * y / 18446744073709551616 := by omega
  have e4 : x * y / 18446744073709551616 / 18446744073709551616 = 0 := by omega
  go_enter Try.func13, Try.ntmps13
  go_wp2_with (first
    | (go_at_call 49; refine (mul64_int x y hx0 hx hy0 hy _).mono ?_; rintro e w' ⟨rfl, rfl⟩)
    | (go_at_call 38; refine (plus_any 0 0 _ _ (by omega) (by omega) (by omega) (by omega) (by omega) (by omega) _).mono ?_; rintro e w1 ⟨rfl, d1, d2, d3, d4, rfl⟩)
    | (go_at_call 36; refine (wide_any _ _ _).mono ?_; rintro e w2 ⟨rfl, f1, f2, rfl⟩)
    | go_in)
  go_returns
  exact ⟨rfl, ⟨by go_grown, by go_grown⟩⟩

end Go.Proofs.Ytmcbciaeibfgpaa
