/- spec.l2Big, l2BigWide. -/
import Derived.Test.YtmllepdkbggpmaaDoorBigNorm
set_option linter.unusedVariables false
set_option linter.unusedSimpArgs false
namespace Go.Proofs.YtmllepdkbggpmaaDoor
open Go.RowKit

theorem raw2 (W : Nat) (h1 : W < 18446744073709551616) (w : World) (t : TypeId) :
    Raw (w.alloc (Obj.cells #[Value.int IntKind.u32 ((W : Int) % 4294967296), Value.int IntKind.u32 ((W : Int) / 4294967296)] t)) (.slice (some ⟨w.heap.size, 0, none⟩) 2 2) 2 W := by
  refine ⟨by omega, w.heap.size, 2, rfl, by omega, by decide, fun j hj => ?_⟩
  match j, hj with
  | 0, _ =>
    have e : ((dg W 0 : Nat) : Int) = (W : Int) % 4294967296 := by unfold dg; simp
    rw [e]; simp [go_sem]
  | 1, _ =>
    have e : ((dg W 1 : Nat) : Int) = (W : Int) / 4294967296 := by unfold dg; rw [Nat.pow_one]; omega
    rw [e]; simp [go_sem]

set_option maxHeartbeats 1000000 in
theorem l2Big_any (W : Nat) (h1 : W < 18446744073709551616) (w : World) :
    Calls Tryd.prog 55 #[.int .u64 W] w fun e w' => ∃ v' k, e = .returned v' ∧ Big w' v' k W ∧ k ≤ 2 ∧ Gb w w' := by
  go_enter Tryd.func55, Tryd.ntmps55
  go_wp2_with (go_at_call 53; refine (l2Norm_any (raw2 W h1 w _) (by omega)).mono ?_; rintro e w' ⟨v', k, rfl, hw, hbig, hk⟩; rw [← hw]; clear hw)
  go_returns
  exact ⟨_, _, rfl, hbig, hk, (Gb.refl w).alloc _⟩

theorem raw4 (h l : Nat) (h1 : h < 18446744073709551616) (l1 : l < 18446744073709551616) (w : World) (t : TypeId) (o : Obj) :
    Raw ((w.alloc o).alloc (Obj.cells #[Value.int IntKind.u32 ((l : Int) % 4294967296), Value.int IntKind.u32 ((l : Int) / 4294967296), Value.int IntKind.u32 ((h : Int) % 4294967296), Value.int IntKind.u32 ((h : Int) / 4294967296)] t)) (.slice (some ⟨w.heap.size + 1, 0, none⟩) 4 4) 4 (h * 18446744073709551616 + l) := by
  refine ⟨by omega, w.heap.size + 1, 4, rfl, by omega, by decide, fun j hj => ?_⟩
  match j, hj with
  | 0, _ =>
    have e : ((dg (h * 18446744073709551616 + l) 0 : Nat) : Int) = (l : Int) % 4294967296 := by unfold dg; simp only [Nat.pow_zero, Nat.div_one]; omega
    rw [e]; simp [go_sem]
  | 1, _ =>
    have e : ((dg (h * 18446744073709551616 + l) 1 : Nat) : Int) = (l : Int) / 4294967296 := by unfold dg; rw [Nat.pow_one]; omega
    rw [e]; simp [go_sem]
  | 2, _ =>
    have e : ((dg (h * 18446744073709551616 + l) 2 : Nat) : Int) = (h : Int) % 4294967296 := by unfold dg; rw [show 4294967296 ^ 2 = 18446744073709551616 from rfl]; omega
    rw [e]; simp [go_sem]
  | 3, _ =>
    have e : ((dg (h * 18446744073709551616 + l) 3 : Nat) : Int) = (h : Int) / 4294967296 := by unfold dg; rw [show 4294967296 ^ 3 = 18446744073709551616 * 4294967296 from rfl, ← Nat.div_div_eq_div_mul]; omega
    rw [e]; simp [go_sem]

set_option maxHeartbeats 1000000 in
theorem l2BigWide_any (h l : Nat) (h1 : h < 18446744073709551616) (l1 : l < 18446744073709551616) (w : World) :
    Calls Tryd.prog 36 #[.agg #[.int .u64 h, .int .u64 l]] w fun e w' => ∃ v' k, e = .returned v' ∧ Big w' v' k (h * 18446744073709551616 + l) ∧ k ≤ 4 ∧ Gb w w' := by
  go_enter Tryd.func36, Tryd.ntmps36
  go_wp2_with (go_at_call 53; refine (l2Norm_any (raw4 h l h1 l1 w _ _) (by omega)).mono ?_; rintro e w' ⟨v', k, rfl, hw, hbig, hk⟩; rw [← hw]; clear hw)
  go_returns
  exact ⟨_, _, rfl, hbig, hk, ((Gb.refl w).alloc _).alloc _⟩
end Go.Proofs.YtmllepdkbggpmaaDoor
