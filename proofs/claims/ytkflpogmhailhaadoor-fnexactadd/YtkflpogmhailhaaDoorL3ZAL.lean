/- laws.FnExactAdd. -/
import Derived.Test.YtkflpogmhailhaaDoorL3Z
import Derived.Test.YtkflpogmhailhaaDoorA2
set_option linter.unusedVariables false
set_option linter.unusedSimpArgs false
namespace Go.Proofs.YtkflpogmhailhaaDoor
open Go.RowKit

set_option maxRecDepth 100000 in
set_option maxHeartbeats 2000000 in
theorem lawAdd (f mode a b : Int) (f0 : -9223372036854775808 ≤ f) (f1 : f < 9223372036854775808) (m0 : -9223372036854775808 ≤ mode) (m1 : mode < 9223372036854775808) (a0 : 0 ≤ a) (a1 : a < 18446744073709551616) (b0 : 0 ≤ b) (b1 : b < 18446744073709551616) {w : World} (hw : Fm w) :
    Calls Tryd.prog 6 #[.int .i64 f, .int .i64 mode, .int .u64 a, .int .u64 b] w fun e w' => e = .returned (.bool true) ∧ Gb w w' := by
  obtain ⟨Z, fl, _, HA, HB⟩ := add_same f mode a b a0 a1 b0 b1
  have HS : Hid (∀ w, Calls Tryd.prog 17 #[.int .i64 f, .int .i64 mode, .int .u64 a, .int .u64 b] w fun x w' => x = .returned (.agg #[.int .u64 Z, .int .i64 fl]) ∧ Gb w w') := HA
  have HI : Hid (∀ w', Gb w w' → Calls Tryd.prog 18 #[.int .i64 f, .int .i64 mode, .int .u64 a, .int .u64 b] w' fun x w'' => x = .returned (.agg #[.int .u64 Z, .int .i64 fl]) ∧ Gr w' w'') := fun w' hg => HB w' (hw.gb hg)
  clear HA HB hw
  go_enter Tryd.func6, Tryd.ntmps6
  go_wp2_with (first
    | (go_at_call 17; refine (HS.out _).mono ?_; rintro x w2 ⟨rfl, hg_w2⟩)
    | (go_at_call 18; refine (HI.out _ Gb.g).mono ?_; rintro x w3 ⟨rfl, hg_w3⟩; have r0 : w3.cell? ⟨w2.heap.size, 0, none⟩ = some (.int .u64 Z) := hg_w3.c; have rA0 := (fun ob => cell_alloc ob r0); have r1 : w3.cell? ⟨w2.heap.size, 1, none⟩ = some (.int .i64 fl) := hg_w3.c; have rA1 := (fun ob => cell_alloc ob r1))
    | (go_at_call 12; refine (eqResult_same Z fl _).mono ?_; rintro x w4 ⟨rfl, hg_w4⟩))
  go_returns
  exact ⟨rfl, Gb.g⟩
end Go.Proofs.YtkflpogmhailhaaDoor
