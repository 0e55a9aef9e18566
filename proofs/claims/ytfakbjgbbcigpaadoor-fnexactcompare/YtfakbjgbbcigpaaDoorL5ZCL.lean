/- The law over L5ZC. -/
import Derived.Test.YtfakbjgbbcigpaaDoorL5ZC
import Derived.Test.YtfakbjgbbcigpaaDoorA2
set_option linter.unusedVariables false
set_option linter.unusedSimpArgs false
namespace Go.Proofs.YtfakbjgbbcigpaaDoor
open Go.RowKit

set_option maxRecDepth 100000 in
set_option maxHeartbeats 2000000 in
theorem lawCompare (f a b : Int) (s : Bool) (f0 : -9223372036854775808 ≤ f) (f1 : f < 9223372036854775808) (a0 : 0 ≤ a) (a1 : a < 18446744073709551616) (b0 : 0 ≤ b) (b1 : b < 18446744073709551616) {w : World} (hw : Fm w) :
    Calls Tryd.prog 3 #[.int .i64 f, .int .u64 a, .int .u64 b, .bool s] w fun e w' => e = .returned (.bool true) ∧ Gb w w' := by
  obtain ⟨r, fl, _, HA, HB⟩ := compare_same f a b s a0 a1 b0 b1
  have HS : Hid (∀ w, Calls Tryd.prog 11 #[.int .i64 f, .int .u64 a, .int .u64 b, .bool s] w fun x w' => x = .returned (.tuple #[.int .i64 r, .int .i64 fl]) ∧ Gr w w') := HA
  have HI : Hid (∀ w', Gb w w' → Calls Tryd.prog 12 #[.int .i64 f, .int .u64 a, .int .u64 b, .bool s] w' fun x w'' => x = .returned (.tuple #[.int .i64 r, .int .i64 fl]) ∧ Gr w' w'') := fun w' hg => HB w' (hw.gb hg)
  clear HA HB hw
  go_enter Tryd.func3, Tryd.ntmps3
  go_wp2_with (first
    | (go_at_call 11; refine (HS.out _).mono ?_; rintro x w2 ⟨rfl, hg_w2⟩)
    | (go_at_call 12; refine (HI.out _ Gb.g).mono ?_; rintro x w3 ⟨rfl, hg_w3⟩))
  go_returns
  exact ⟨rfl, Gb.g⟩

end Go.Proofs.YtfakbjgbbcigpaaDoor
