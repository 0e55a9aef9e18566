/- The number of bits, as the library counts it. -/
import Derived.Test.YtmllepdkbggpmaaDoorBigMath
import Derived.Lib.BitFns
namespace Go.Proofs.YtmllepdkbggpmaaDoor

theorem bitLen_nb (n : Nat) (h : n < 18446744073709551616) : Go.Lib.bitLen n = nb n := by
  induction n using Nat.strongRecOn with
  | ind n ih =>
    rcases Nat.eq_zero_or_pos n with rfl | hp
    · decide +kernel
    · rw [Go.Lib.bitLen_half n (by omega) (by simpa using h), nb_half n hp, ih (n / 2) (by omega) (by omega)]

end Go.Proofs.YtmllepdkbggpmaaDoor
