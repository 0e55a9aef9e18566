/- spec.l1Bits, l1Wide, l2DrawFormat, l2DrawExp, l2DrawWord, l2Any, DrawUnpack. -/
import Derived.Test.YtoaggnpcmieeaaaDoorDrawB
import Derived.Deep.DeepCutAuto
import Derived.Deep.Cut
import Derived.Test.YtoaggnpcmieeaaaDoorL2A
import Derived.Test.YtoaggnpcmieeaaaDoorZerosI
import Derived.Deep.RegionHeld3
set_option linter.unusedVariables false
set_option linter.unusedSimpArgs false

namespace Go.Proofs.YtoaggnpcmieeaaaDoor
open Go.RowKit

set_option maxHeartbeats 1000000 in
theorem wideDraw_any (a : Option Addr) (len cap p : Nat) (w : World) (hC : CodeRow w a len) (hp : p ≤ 800) :
    Calls Tryd.prog 47 #[.slice a len cap, .int .i64 p] w fun e w' => ∃ (h l : Int) (k : Nat), 0 ≤ h ∧ h < 18446744073709551616 ∧ 0 ≤ l ∧ l < 18446744073709551616 ∧ k ≤ p + 21 ∧ e = .returned (.tuple #[.agg #[.int .u64 h, .int .u64 l], .int .i64 k]) ∧ ∃ c : Array Value, w' = w.alloc (.cells c 34) := by
  have HC : Hid (CodeRow (w.alloc (.cells #[.int .u64 0, .int .u64 0] 34)) a len) := hC.gr ((Gr.refl _).alloc _ _)
  clear hC
  go_enter Tryd.func47, Tryd.ntmps47
  go_upto_region 3 with (go_at_call 46; refine (take_any a len cap p 6 _ HC.out (by omega) (by omega) (by omega)).mono ?_; rintro e w' ⟨how, hw0, hw1, rfl, hw⟩; subst hw)
  go_upto_region 4 with (go_at_call 65; refine (bitsN_any a len cap (p + 1) 64 (by omega) _ HC.out (by omega)).mono ?_; rintro e w' ⟨h, k, h0, h1, hk, rfl, hw⟩; subst hw)
  go_upto_region 5 with (go_at_call 65; refine (bitsN_any a len cap k 64 (by omega) _ HC.out (by omega)).mono ?_; rintro e w' ⟨l, j, l0, l1, hj, rfl, hw⟩; subst hw)
  go_wp2
  all_goals go_returns
  all_goals exact ⟨_, l, j, by omega, by omega, l0, l1, by omega, rfl, _, rfl⟩

set_option maxRecDepth 100000 in
set_option maxHeartbeats 2000000 in
theorem drawUnpack_any (a : Option Addr) (len cap : Nat) (w : World) (hC : CodeRow w a len) :
    Calls Tryd.prog 16 #[.slice a len cap] w fun x w' => ∃ f v : Int, -10 ≤ f ∧ f ≤ 10 ∧ 0 ≤ v ∧ v < 18446744073709551616 ∧ x = .returned (.tuple #[.int .i64 f, .int .u64 v]) ∧ w = w' := by
  have HC : Hid (CodeRow w a len) := hC
  clear hC
  go_enter Tryd.func16, Tryd.ntmps16
  go_upto_region 2 with (go_at_call 44; refine (drawFormat_any a len cap 0 _ HC.out (by omega)).mono ?_; rintro x w' ⟨f, m, f0, f1, m0, m1, rfl, hw⟩; subst hw)
  go_wp2_with (go_at_call 45; refine (drawAny_any a len cap 2 f _ HC.out (by omega)).mono ?_; rintro x w' ⟨v, j, v0, v1, hj, rfl, hw⟩; subst hw)
  go_returns
  exact ⟨f, v, f0, f1, v0, v1, rfl, rfl⟩

theorem zer_bounds (h l : Int) (h0 : 0 ≤ h) (l0 : 0 ≤ l) (h1 : h < 18446744073709551616) (l1 : l < 18446744073709551616) : 0 ≤ zer h l ∧ zer h l ≤ 128 := by
  have e := bl_zer h l h0 l0 h1 l1
  have a := bl_le (h * 18446744073709551616 + l) (by omega) (by omega)
  have b := bl_nonneg (h * 18446744073709551616 + l)
  omega

/-- What DrawRoundPack hands out. -/
def RPDraw (w : World) (x : Ending) (w' : World) : Prop :=
  ∃ (f m s e h l : Int) (b : Bool), (-10 ≤ f ∧ f ≤ 10) ∧ (-10 ≤ m ∧ m ≤ 10) ∧ (-10 ≤ s ∧ s ≤ 10) ∧ (-1000000 ≤ e ∧ e ≤ 1000000) ∧ (0 ≤ h ∧ h < 18446744073709551616) ∧ (0 ≤ l ∧ l < 18446744073709551616) ∧ x = .returned (.tuple #[.int .i64 f, .int .i64 m, .int .i64 s, .int .i64 e, .agg #[.int .u64 h, .int .u64 l], .bool b]) ∧ Gr w w'

end Go.Proofs.YtoaggnpcmieeaaaDoor
