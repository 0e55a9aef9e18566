/- impl's integers as words. -/
import Derived.Test.YtfakbjgbbcigpaaGreatDoorL5K
import Derived.BigQuiet
import Derived.Deep.QuietTactic
set_option linter.unusedVariables false
set_option linter.unusedSimpArgs false
namespace Go.Proofs.YtfakbjgbbcigpaaGreatDoor
open Go.RowKit

theorem gr_drewN {W w : World} (h : Gr W w) {n : Nat} : Gr W (w.drewN n) := by
  obtain ⟨⟨⟨a1, a2, a3⟩, b, c⟩, d⟩ := h
  exact ⟨⟨⟨a1, a2, a3⟩, b, c⟩, below_drewN d n⟩

attribute [local go_sem] undef in
set_option maxRecDepth 100000 in
set_option maxHeartbeats 2000000 in
theorem toWord_00_far (hi lo : Int) (c : (hi != 0) = true) (w : World) :
    Calls Tryz.prog 126 #[.agg #[.int .i32 (-2147483648), .int .i32 2147483647], .int .i64 0, .agg #[.int .u64 hi, .int .u64 lo]] w fun e w' => e = .returned (.tuple #[.int .u64 2147483647, .bool false]) ∧ Gr w w' := by
  have HE : Hid (∀ w, Calls Tryz.prog 127 #[.int .i64 0, .int .u64 2147483647] w fun e w' => e = .returned (.int .u64 2147483647) ∧ w = w') := fun w => turnedIf_0 _ w
  go_enter Tryz.func126, Tryz.ntmps126
  go_wp2
  go_quiet (first | (go_at_call 127; refine Calls.quiet_of_same ((HE.out _).mono (fun e w' h => ⟨h.1, h.2.symm⟩))))
  all_goals go_wp2
  all_goals go_returns
  all_goals exact ⟨rfl, gr_drewN Gr.g⟩

attribute [local go_sem] undef in
set_option maxRecDepth 100000 in
set_option maxHeartbeats 2000000 in
theorem toWord_00_big (hi lo : Int) (c : hi = 0) (c2 : decide (2147483647 < lo) = true) (w : World) :
    Calls Tryz.prog 126 #[.agg #[.int .i32 (-2147483648), .int .i32 2147483647], .int .i64 0, .agg #[.int .u64 hi, .int .u64 lo]] w fun e w' => e = .returned (.tuple #[.int .u64 2147483647, .bool false]) ∧ Gr w w' := by
  subst c
  have HE : Hid (∀ w, Calls Tryz.prog 127 #[.int .i64 0, .int .u64 2147483647] w fun e w' => e = .returned (.int .u64 2147483647) ∧ w = w') := fun w => turnedIf_0 _ w
  go_enter Tryz.func126, Tryz.ntmps126
  go_wp2
  go_quiet (first | (go_at_call 127; refine Calls.quiet_of_same ((HE.out _).mono (fun e w' h => ⟨h.1, h.2.symm⟩))))
  all_goals go_wp2
  all_goals go_returns
  all_goals exact ⟨rfl, gr_drewN Gr.g⟩

attribute [local go_sem] undef in
set_option maxRecDepth 100000 in
set_option maxHeartbeats 2000000 in
theorem toWord_00_ok (hi lo : Int) (c : hi = 0) (c2 : decide (2147483647 < lo) = false) (w : World) :
    Calls Tryz.prog 126 #[.agg #[.int .i32 (-2147483648), .int .i32 2147483647], .int .i64 0, .agg #[.int .u64 hi, .int .u64 lo]] w fun e w' => e = .returned (.tuple #[.int .u64 lo, .bool true]) ∧ Gr w w' := by
  subst c
  have HE : Hid (∀ w, Calls Tryz.prog 127 #[.int .i64 0, .int .u64 2147483647] w fun e w' => e = .returned (.int .u64 2147483647) ∧ w = w') := fun w => turnedIf_0 _ w
  have HL : Hid (∀ w, Calls Tryz.prog 127 #[.int .i64 0, .int .u64 lo] w fun e w' => e = .returned (.int .u64 lo) ∧ w = w') := fun w => turnedIf_0 _ w
  go_enter Tryz.func126, Tryz.ntmps126
  go_wp2
  go_quiet (first | (go_at_call 127; refine Calls.quiet_of_same ((HE.out _).mono (fun e w' h => ⟨h.1, h.2.symm⟩))))
  all_goals go_wp2_with (go_at_call 127; with_reducible refine (HL.out _).mono ?_; rintro e wk ⟨rfl, hw⟩; subst hw)
  all_goals go_returns
  all_goals exact ⟨rfl, gr_drewN Gr.g⟩

attribute [local go_sem] undef in
set_option maxRecDepth 100000 in
set_option maxHeartbeats 2000000 in
theorem toWord_01_far (hi lo : Int) (c : (hi != 0) = true) (w : World) :
    Calls Tryz.prog 126 #[.agg #[.int .i32 (-2147483648), .int .i32 2147483647], .int .i64 1, .agg #[.int .u64 hi, .int .u64 lo]] w fun e w' => e = .returned (.tuple #[.int .u64 18446744071562067968, .bool false]) ∧ Gr w w' := by
  have HE : Hid (∀ w, Calls Tryz.prog 127 #[.int .i64 1, .int .u64 18446744071562067968] w fun e w' => e = .returned (.int .u64 2147483648) ∧ w = w') := fun w => turnedIf_1 _ _ (by decide +kernel) w
  have u1 : IntKind.u64.wrap (-2147483648) = 18446744071562067968 := by decide +kernel
  go_enter Tryz.func126, Tryz.ntmps126
  go_wp2
  go_quiet (first | (go_at_call 127; refine Calls.quiet_of_same ((HE.out _).mono (fun e w' h => ⟨h.1, h.2.symm⟩))))
  all_goals go_wp2
  all_goals go_returns
  all_goals exact ⟨rfl, gr_drewN Gr.g⟩

attribute [local go_sem] undef in
set_option maxRecDepth 100000 in
set_option maxHeartbeats 2000000 in
theorem toWord_01_big (hi lo : Int) (c : hi = 0) (c2 : decide (2147483648 < lo) = true) (w : World) :
    Calls Tryz.prog 126 #[.agg #[.int .i32 (-2147483648), .int .i32 2147483647], .int .i64 1, .agg #[.int .u64 hi, .int .u64 lo]] w fun e w' => e = .returned (.tuple #[.int .u64 18446744071562067968, .bool false]) ∧ Gr w w' := by
  subst c
  have HE : Hid (∀ w, Calls Tryz.prog 127 #[.int .i64 1, .int .u64 18446744071562067968] w fun e w' => e = .returned (.int .u64 2147483648) ∧ w = w') := fun w => turnedIf_1 _ _ (by decide +kernel) w
  have u1 : IntKind.u64.wrap (-2147483648) = 18446744071562067968 := by decide +kernel
  go_enter Tryz.func126, Tryz.ntmps126
  go_wp2
  go_quiet (first | (go_at_call 127; refine Calls.quiet_of_same ((HE.out _).mono (fun e w' h => ⟨h.1, h.2.symm⟩))))
  all_goals go_wp2
  all_goals go_returns
  all_goals exact ⟨rfl, gr_drewN Gr.g⟩

attribute [local go_sem] undef in
set_option maxRecDepth 100000 in
set_option maxHeartbeats 2000000 in
theorem toWord_01_ok (hi lo r : Int) (c : hi = 0) (c2 : decide (2147483648 < lo) = false) (hr : IntKind.u64.wrap (-lo) = r) (w : World) :
    Calls Tryz.prog 126 #[.agg #[.int .i32 (-2147483648), .int .i32 2147483647], .int .i64 1, .agg #[.int .u64 hi, .int .u64 lo]] w fun e w' => e = .returned (.tuple #[.int .u64 r, .bool true]) ∧ Gr w w' := by
  subst c
  have HE : Hid (∀ w, Calls Tryz.prog 127 #[.int .i64 1, .int .u64 18446744071562067968] w fun e w' => e = .returned (.int .u64 2147483648) ∧ w = w') := fun w => turnedIf_1 _ _ (by decide +kernel) w
  have HL : Hid (∀ w, Calls Tryz.prog 127 #[.int .i64 1, .int .u64 lo] w fun e w' => e = .returned (.int .u64 r) ∧ w = w') := fun w => turnedIf_1 _ _ hr w
  have u1 : IntKind.u64.wrap (-2147483648) = 18446744071562067968 := by decide +kernel
  go_enter Tryz.func126, Tryz.ntmps126
  go_wp2
  go_quiet (first | (go_at_call 127; refine Calls.quiet_of_same ((HE.out _).mono (fun e w' h => ⟨h.1, h.2.symm⟩))))
  all_goals go_wp2_with (go_at_call 127; with_reducible refine (HL.out _).mono ?_; rintro e wk ⟨rfl, hw⟩; subst hw)
  all_goals go_returns
  all_goals exact ⟨rfl, gr_drewN Gr.g⟩

attribute [local go_sem] undef in
set_option maxRecDepth 100000 in
set_option maxHeartbeats 2000000 in
theorem toWord_10_far (hi lo : Int) (c : (hi != 0) = true) (w : World) :
    Calls Tryz.prog 129 #[.agg #[.int .i64 (-9223372036854775808), .int .i64 9223372036854775807], .int .i64 0, .agg #[.int .u64 hi, .int .u64 lo]] w fun e w' => e = .returned (.tuple #[.int .u64 9223372036854775807, .bool false]) ∧ Gr w w' := by
  have HE : Hid (∀ w, Calls Tryz.prog 127 #[.int .i64 0, .int .u64 9223372036854775807] w fun e w' => e = .returned (.int .u64 9223372036854775807) ∧ w = w') := fun w => turnedIf_0 _ w
  go_enter Tryz.func129, Tryz.ntmps129
  go_wp2
  go_quiet (first | (go_at_call 127; refine Calls.quiet_of_same ((HE.out _).mono (fun e w' h => ⟨h.1, h.2.symm⟩))))
  all_goals go_wp2
  all_goals go_returns
  all_goals exact ⟨rfl, gr_drewN Gr.g⟩

attribute [local go_sem] undef in
set_option maxRecDepth 100000 in
set_option maxHeartbeats 2000000 in
theorem toWord_10_big (hi lo : Int) (c : hi = 0) (c2 : decide (9223372036854775807 < lo) = true) (w : World) :
    Calls Tryz.prog 129 #[.agg #[.int .i64 (-9223372036854775808), .int .i64 9223372036854775807], .int .i64 0, .agg #[.int .u64 hi, .int .u64 lo]] w fun e w' => e = .returned (.tuple #[.int .u64 9223372036854775807, .bool false]) ∧ Gr w w' := by
  subst c
  have HE : Hid (∀ w, Calls Tryz.prog 127 #[.int .i64 0, .int .u64 9223372036854775807] w fun e w' => e = .returned (.int .u64 9223372036854775807) ∧ w = w') := fun w => turnedIf_0 _ w
  go_enter Tryz.func129, Tryz.ntmps129
  go_wp2
  go_quiet (first | (go_at_call 127; refine Calls.quiet_of_same ((HE.out _).mono (fun e w' h => ⟨h.1, h.2.symm⟩))))
  all_goals go_wp2
  all_goals go_returns
  all_goals exact ⟨rfl, gr_drewN Gr.g⟩

attribute [local go_sem] undef in
set_option maxRecDepth 100000 in
set_option maxHeartbeats 2000000 in
theorem toWord_10_ok (hi lo : Int) (c : hi = 0) (c2 : decide (9223372036854775807 < lo) = false) (w : World) :
    Calls Tryz.prog 129 #[.agg #[.int .i64 (-9223372036854775808), .int .i64 9223372036854775807], .int .i64 0, .agg #[.int .u64 hi, .int .u64 lo]] w fun e w' => e = .returned (.tuple #[.int .u64 lo, .bool true]) ∧ Gr w w' := by
  subst c
  have HE : Hid (∀ w, Calls Tryz.prog 127 #[.int .i64 0, .int .u64 9223372036854775807] w fun e w' => e = .returned (.int .u64 9223372036854775807) ∧ w = w') := fun w => turnedIf_0 _ w
  have HL : Hid (∀ w, Calls Tryz.prog 127 #[.int .i64 0, .int .u64 lo] w fun e w' => e = .returned (.int .u64 lo) ∧ w = w') := fun w => turnedIf_0 _ w
  go_enter Tryz.func129, Tryz.ntmps129
  go_wp2
  go_quiet (first | (go_at_call 127; refine Calls.quiet_of_same ((HE.out _).mono (fun e w' h => ⟨h.1, h.2.symm⟩))))
  all_goals go_wp2_with (go_at_call 127; with_reducible refine (HL.out _).mono ?_; rintro e wk ⟨rfl, hw⟩; subst hw)
  all_goals go_returns
  all_goals exact ⟨rfl, gr_drewN Gr.g⟩

attribute [local go_sem] undef in
set_option maxRecDepth 100000 in
set_option maxHeartbeats 2000000 in
theorem toWord_11_far (hi lo : Int) (c : (hi != 0) = true) (w : World) :
    Calls Tryz.prog 129 #[.agg #[.int .i64 (-9223372036854775808), .int .i64 9223372036854775807], .int .i64 1, .agg #[.int .u64 hi, .int .u64 lo]] w fun e w' => e = .returned (.tuple #[.int .u64 9223372036854775808, .bool false]) ∧ Gr w w' := by
  have HE : Hid (∀ w, Calls Tryz.prog 127 #[.int .i64 1, .int .u64 9223372036854775808] w fun e w' => e = .returned (.int .u64 9223372036854775808) ∧ w = w') := fun w => turnedIf_1 _ _ (by decide +kernel) w
  have u1 : IntKind.u64.wrap (-9223372036854775808) = 9223372036854775808 := by decide +kernel
  go_enter Tryz.func129, Tryz.ntmps129
  go_wp2
  go_quiet (first | (go_at_call 127; refine Calls.quiet_of_same ((HE.out _).mono (fun e w' h => ⟨h.1, h.2.symm⟩))))
  all_goals go_wp2
  all_goals go_returns
  all_goals exact ⟨rfl, gr_drewN Gr.g⟩

attribute [local go_sem] undef in
set_option maxRecDepth 100000 in
set_option maxHeartbeats 2000000 in
theorem toWord_11_big (hi lo : Int) (c : hi = 0) (c2 : decide (9223372036854775808 < lo) = true) (w : World) :
    Calls Tryz.prog 129 #[.agg #[.int .i64 (-9223372036854775808), .int .i64 9223372036854775807], .int .i64 1, .agg #[.int .u64 hi, .int .u64 lo]] w fun e w' => e = .returned (.tuple #[.int .u64 9223372036854775808, .bool false]) ∧ Gr w w' := by
  subst c
  have HE : Hid (∀ w, Calls Tryz.prog 127 #[.int .i64 1, .int .u64 9223372036854775808] w fun e w' => e = .returned (.int .u64 9223372036854775808) ∧ w = w') := fun w => turnedIf_1 _ _ (by decide +kernel) w
  have u1 : IntKind.u64.wrap (-9223372036854775808) = 9223372036854775808 := by decide +kernel
  go_enter Tryz.func129, Tryz.ntmps129
  go_wp2
  go_quiet (first | (go_at_call 127; refine Calls.quiet_of_same ((HE.out _).mono (fun e w' h => ⟨h.1, h.2.symm⟩))))
  all_goals go_wp2
  all_goals go_returns
  all_goals exact ⟨rfl, gr_drewN Gr.g⟩

attribute [local go_sem] undef in
set_option maxRecDepth 100000 in
set_option maxHeartbeats 2000000 in
theorem toWord_11_ok (hi lo r : Int) (c : hi = 0) (c2 : decide (9223372036854775808 < lo) = false) (hr : IntKind.u64.wrap (-lo) = r) (w : World) :
    Calls Tryz.prog 129 #[.agg #[.int .i64 (-9223372036854775808), .int .i64 9223372036854775807], .int .i64 1, .agg #[.int .u64 hi, .int .u64 lo]] w fun e w' => e = .returned (.tuple #[.int .u64 r, .bool true]) ∧ Gr w w' := by
  subst c
  have HE : Hid (∀ w, Calls Tryz.prog 127 #[.int .i64 1, .int .u64 9223372036854775808] w fun e w' => e = .returned (.int .u64 9223372036854775808) ∧ w = w') := fun w => turnedIf_1 _ _ (by decide +kernel) w
  have HL : Hid (∀ w, Calls Tryz.prog 127 #[.int .i64 1, .int .u64 lo] w fun e w' => e = .returned (.int .u64 r) ∧ w = w') := fun w => turnedIf_1 _ _ hr w
  have u1 : IntKind.u64.wrap (-9223372036854775808) = 9223372036854775808 := by decide +kernel
  go_enter Tryz.func129, Tryz.ntmps129
  go_wp2
  go_quiet (first | (go_at_call 127; refine Calls.quiet_of_same ((HE.out _).mono (fun e w' h => ⟨h.1, h.2.symm⟩))))
  all_goals go_wp2_with (go_at_call 127; with_reducible refine (HL.out _).mono ?_; rintro e wk ⟨rfl, hw⟩; subst hw)
  all_goals go_returns
  all_goals exact ⟨rfl, gr_drewN Gr.g⟩

attribute [local go_sem] undef in
set_option maxRecDepth 100000 in
set_option maxHeartbeats 2000000 in
theorem toWord_20_far (hi lo : Int) (c : (hi != 0) = true) (w : World) :
    Calls Tryz.prog 131 #[.agg #[.int .u32 0, .int .u32 4294967295], .int .i64 0, .agg #[.int .u64 hi, .int .u64 lo]] w fun e w' => e = .returned (.tuple #[.int .u64 4294967295, .bool false]) ∧ Gr w w' := by
  have HE : Hid (∀ w, Calls Tryz.prog 127 #[.int .i64 0, .int .u64 4294967295] w fun e w' => e = .returned (.int .u64 4294967295) ∧ w = w') := fun w => turnedIf_0 _ w
  go_enter Tryz.func131, Tryz.ntmps131
  go_wp2
  go_quiet (first | (go_at_call 127; refine Calls.quiet_of_same ((HE.out _).mono (fun e w' h => ⟨h.1, h.2.symm⟩))))
  all_goals go_wp2
  all_goals go_returns
  all_goals exact ⟨rfl, gr_drewN Gr.g⟩

attribute [local go_sem] undef in
set_option maxRecDepth 100000 in
set_option maxHeartbeats 2000000 in
theorem toWord_20_big (hi lo : Int) (c : hi = 0) (c2 : decide (4294967295 < lo) = true) (w : World) :
    Calls Tryz.prog 131 #[.agg #[.int .u32 0, .int .u32 4294967295], .int .i64 0, .agg #[.int .u64 hi, .int .u64 lo]] w fun e w' => e = .returned (.tuple #[.int .u64 4294967295, .bool false]) ∧ Gr w w' := by
  subst c
  have HE : Hid (∀ w, Calls Tryz.prog 127 #[.int .i64 0, .int .u64 4294967295] w fun e w' => e = .returned (.int .u64 4294967295) ∧ w = w') := fun w => turnedIf_0 _ w
  go_enter Tryz.func131, Tryz.ntmps131
  go_wp2
  go_quiet (first | (go_at_call 127; refine Calls.quiet_of_same ((HE.out _).mono (fun e w' h => ⟨h.1, h.2.symm⟩))))
  all_goals go_wp2
  all_goals go_returns
  all_goals exact ⟨rfl, gr_drewN Gr.g⟩

attribute [local go_sem] undef in
set_option maxRecDepth 100000 in
set_option maxHeartbeats 2000000 in
theorem toWord_20_ok (hi lo : Int) (c : hi = 0) (c2 : decide (4294967295 < lo) = false) (w : World) :
    Calls Tryz.prog 131 #[.agg #[.int .u32 0, .int .u32 4294967295], .int .i64 0, .agg #[.int .u64 hi, .int .u64 lo]] w fun e w' => e = .returned (.tuple #[.int .u64 lo, .bool true]) ∧ Gr w w' := by
  subst c
  have HE : Hid (∀ w, Calls Tryz.prog 127 #[.int .i64 0, .int .u64 4294967295] w fun e w' => e = .returned (.int .u64 4294967295) ∧ w = w') := fun w => turnedIf_0 _ w
  have HL : Hid (∀ w, Calls Tryz.prog 127 #[.int .i64 0, .int .u64 lo] w fun e w' => e = .returned (.int .u64 lo) ∧ w = w') := fun w => turnedIf_0 _ w
  go_enter Tryz.func131, Tryz.ntmps131
  go_wp2
  go_quiet (first | (go_at_call 127; refine Calls.quiet_of_same ((HE.out _).mono (fun e w' h => ⟨h.1, h.2.symm⟩))))
  all_goals go_wp2_with (go_at_call 127; with_reducible refine (HL.out _).mono ?_; rintro e wk ⟨rfl, hw⟩; subst hw)
  all_goals go_returns
  all_goals exact ⟨rfl, gr_drewN Gr.g⟩

attribute [local go_sem] undef in
set_option maxRecDepth 100000 in
set_option maxHeartbeats 2000000 in
theorem toWord_21_far (hi lo : Int) (c : (hi != 0) = true) (w : World) :
    Calls Tryz.prog 131 #[.agg #[.int .u32 0, .int .u32 4294967295], .int .i64 1, .agg #[.int .u64 hi, .int .u64 lo]] w fun e w' => e = .returned (.tuple #[.int .u64 0, .bool false]) ∧ Gr w w' := by
  have HE : Hid (∀ w, Calls Tryz.prog 127 #[.int .i64 1, .int .u64 0] w fun e w' => e = .returned (.int .u64 0) ∧ w = w') := fun w => turnedIf_1 _ _ (by decide +kernel) w
  go_enter Tryz.func131, Tryz.ntmps131
  go_wp2
  go_quiet (first | (go_at_call 127; refine Calls.quiet_of_same ((HE.out _).mono (fun e w' h => ⟨h.1, h.2.symm⟩))))
  all_goals go_wp2
  all_goals go_returns
  all_goals exact ⟨rfl, gr_drewN Gr.g⟩

attribute [local go_sem] undef in
set_option maxRecDepth 100000 in
set_option maxHeartbeats 2000000 in
theorem toWord_21_big (hi lo : Int) (c : hi = 0) (c2 : decide (0 < lo) = true) (w : World) :
    Calls Tryz.prog 131 #[.agg #[.int .u32 0, .int .u32 4294967295], .int .i64 1, .agg #[.int .u64 hi, .int .u64 lo]] w fun e w' => e = .returned (.tuple #[.int .u64 0, .bool false]) ∧ Gr w w' := by
  subst c
  have HE : Hid (∀ w, Calls Tryz.prog 127 #[.int .i64 1, .int .u64 0] w fun e w' => e = .returned (.int .u64 0) ∧ w = w') := fun w => turnedIf_1 _ _ (by decide +kernel) w
  go_enter Tryz.func131, Tryz.ntmps131
  go_wp2
  go_quiet (first | (go_at_call 127; refine Calls.quiet_of_same ((HE.out _).mono (fun e w' h => ⟨h.1, h.2.symm⟩))))
  all_goals go_wp2
  all_goals go_returns
  all_goals exact ⟨rfl, gr_drewN Gr.g⟩

attribute [local go_sem] undef in
set_option maxRecDepth 100000 in
set_option maxHeartbeats 2000000 in
theorem toWord_21_ok (hi lo r : Int) (c : hi = 0) (c2 : decide (0 < lo) = false) (hr : IntKind.u64.wrap (-lo) = r) (w : World) :
    Calls Tryz.prog 131 #[.agg #[.int .u32 0, .int .u32 4294967295], .int .i64 1, .agg #[.int .u64 hi, .int .u64 lo]] w fun e w' => e = .returned (.tuple #[.int .u64 r, .bool true]) ∧ Gr w w' := by
  subst c
  have HE : Hid (∀ w, Calls Tryz.prog 127 #[.int .i64 1, .int .u64 0] w fun e w' => e = .returned (.int .u64 0) ∧ w = w') := fun w => turnedIf_1 _ _ (by decide +kernel) w
  have HL : Hid (∀ w, Calls Tryz.prog 127 #[.int .i64 1, .int .u64 lo] w fun e w' => e = .returned (.int .u64 r) ∧ w = w') := fun w => turnedIf_1 _ _ hr w
  go_enter Tryz.func131, Tryz.ntmps131
  go_wp2
  go_quiet (first | (go_at_call 127; refine Calls.quiet_of_same ((HE.out _).mono (fun e w' h => ⟨h.1, h.2.symm⟩))))
  all_goals go_wp2_with (go_at_call 127; with_reducible refine (HL.out _).mono ?_; rintro e wk ⟨rfl, hw⟩; subst hw)
  all_goals go_returns
  all_goals exact ⟨rfl, gr_drewN Gr.g⟩

attribute [local go_sem] undef in
set_option maxRecDepth 100000 in
set_option maxHeartbeats 2000000 in
theorem toWord_30_far (hi lo : Int) (c : (hi != 0) = true) (w : World) :
    Calls Tryz.prog 133 #[.agg #[.int .u64 0, .int .u64 18446744073709551615], .int .i64 0, .agg #[.int .u64 hi, .int .u64 lo]] w fun e w' => e = .returned (.tuple #[.int .u64 18446744073709551615, .bool false]) ∧ Gr w w' := by
  have HE : Hid (∀ w, Calls Tryz.prog 127 #[.int .i64 0, .int .u64 18446744073709551615] w fun e w' => e = .returned (.int .u64 18446744073709551615) ∧ w = w') := fun w => turnedIf_0 _ w
  go_enter Tryz.func133, Tryz.ntmps133
  go_wp2
  go_quiet (first | (go_at_call 127; refine Calls.quiet_of_same ((HE.out _).mono (fun e w' h => ⟨h.1, h.2.symm⟩))))
  all_goals go_wp2
  all_goals go_returns
  all_goals exact ⟨rfl, gr_drewN Gr.g⟩

attribute [local go_sem] undef in
set_option maxRecDepth 100000 in
set_option maxHeartbeats 2000000 in
theorem toWord_30_big (hi lo : Int) (c : hi = 0) (c2 : decide (18446744073709551615 < lo) = true) (w : World) :
    Calls Tryz.prog 133 #[.agg #[.int .u64 0, .int .u64 18446744073709551615], .int .i64 0, .agg #[.int .u64 hi, .int .u64 lo]] w fun e w' => e = .returned (.tuple #[.int .u64 18446744073709551615, .bool false]) ∧ Gr w w' := by
  subst c
  have HE : Hid (∀ w, Calls Tryz.prog 127 #[.int .i64 0, .int .u64 18446744073709551615] w fun e w' => e = .returned (.int .u64 18446744073709551615) ∧ w = w') := fun w => turnedIf_0 _ w
  go_enter Tryz.func133, Tryz.ntmps133
  go_wp2
  go_quiet (first | (go_at_call 127; refine Calls.quiet_of_same ((HE.out _).mono (fun e w' h => ⟨h.1, h.2.symm⟩))))
  all_goals go_wp2
  all_goals go_returns
  all_goals exact ⟨rfl, gr_drewN Gr.g⟩

attribute [local go_sem] undef in
set_option maxRecDepth 100000 in
set_option maxHeartbeats 2000000 in
theorem toWord_30_ok (hi lo : Int) (c : hi = 0) (c2 : decide (18446744073709551615 < lo) = false) (w : World) :
    Calls Tryz.prog 133 #[.agg #[.int .u64 0, .int .u64 18446744073709551615], .int .i64 0, .agg #[.int .u64 hi, .int .u64 lo]] w fun e w' => e = .returned (.tuple #[.int .u64 lo, .bool true]) ∧ Gr w w' := by
  subst c
  have HE : Hid (∀ w, Calls Tryz.prog 127 #[.int .i64 0, .int .u64 18446744073709551615] w fun e w' => e = .returned (.int .u64 18446744073709551615) ∧ w = w') := fun w => turnedIf_0 _ w
  have HL : Hid (∀ w, Calls Tryz.prog 127 #[.int .i64 0, .int .u64 lo] w fun e w' => e = .returned (.int .u64 lo) ∧ w = w') := fun w => turnedIf_0 _ w
  go_enter Tryz.func133, Tryz.ntmps133
  go_wp2
  go_quiet (first | (go_at_call 127; refine Calls.quiet_of_same ((HE.out _).mono (fun e w' h => ⟨h.1, h.2.symm⟩))))
  all_goals go_wp2_with (go_at_call 127; with_reducible refine (HL.out _).mono ?_; rintro e wk ⟨rfl, hw⟩; subst hw)
  all_goals go_returns
  all_goals exact ⟨rfl, gr_drewN Gr.g⟩

attribute [local go_sem] undef in
set_option maxRecDepth 100000 in
set_option maxHeartbeats 2000000 in
theorem toWord_31_far (hi lo : Int) (c : (hi != 0) = true) (w : World) :
    Calls Tryz.prog 133 #[.agg #[.int .u64 0, .int .u64 18446744073709551615], .int .i64 1, .agg #[.int .u64 hi, .int .u64 lo]] w fun e w' => e = .returned (.tuple #[.int .u64 0, .bool false]) ∧ Gr w w' := by
  have HE : Hid (∀ w, Calls Tryz.prog 127 #[.int .i64 1, .int .u64 0] w fun e w' => e = .returned (.int .u64 0) ∧ w = w') := fun w => turnedIf_1 _ _ (by decide +kernel) w
  go_enter Tryz.func133, Tryz.ntmps133
  go_wp2
  go_quiet (first | (go_at_call 127; refine Calls.quiet_of_same ((HE.out _).mono (fun e w' h => ⟨h.1, h.2.symm⟩))))
  all_goals go_wp2
  all_goals go_returns
  all_goals exact ⟨rfl, gr_drewN Gr.g⟩

attribute [local go_sem] undef in
set_option maxRecDepth 100000 in
set_option maxHeartbeats 2000000 in
theorem toWord_31_big (hi lo : Int) (c : hi = 0) (c2 : decide (0 < lo) = true) (w : World) :
    Calls Tryz.prog 133 #[.agg #[.int .u64 0, .int .u64 18446744073709551615], .int .i64 1, .agg #[.int .u64 hi, .int .u64 lo]] w fun e w' => e = .returned (.tuple #[.int .u64 0, .bool false]) ∧ Gr w w' := by
  subst c
  have HE : Hid (∀ w, Calls Tryz.prog 127 #[.int .i64 1, .int .u64 0] w fun e w' => e = .returned (.int .u64 0) ∧ w = w') := fun w => turnedIf_1 _ _ (by decide +kernel) w
  go_enter Tryz.func133, Tryz.ntmps133
  go_wp2
  go_quiet (first | (go_at_call 127; refine Calls.quiet_of_same ((HE.out _).mono (fun e w' h => ⟨h.1, h.2.symm⟩))))
  all_goals go_wp2
  all_goals go_returns
  all_goals exact ⟨rfl, gr_drewN Gr.g⟩

attribute [local go_sem] undef in
set_option maxRecDepth 100000 in
set_option maxHeartbeats 2000000 in
theorem toWord_31_ok (hi lo r : Int) (c : hi = 0) (c2 : decide (0 < lo) = false) (hr : IntKind.u64.wrap (-lo) = r) (w : World) :
    Calls Tryz.prog 133 #[.agg #[.int .u64 0, .int .u64 18446744073709551615], .int .i64 1, .agg #[.int .u64 hi, .int .u64 lo]] w fun e w' => e = .returned (.tuple #[.int .u64 r, .bool true]) ∧ Gr w w' := by
  subst c
  have HE : Hid (∀ w, Calls Tryz.prog 127 #[.int .i64 1, .int .u64 0] w fun e w' => e = .returned (.int .u64 0) ∧ w = w') := fun w => turnedIf_1 _ _ (by decide +kernel) w
  have HL : Hid (∀ w, Calls Tryz.prog 127 #[.int .i64 1, .int .u64 lo] w fun e w' => e = .returned (.int .u64 r) ∧ w = w') := fun w => turnedIf_1 _ _ hr w
  go_enter Tryz.func133, Tryz.ntmps133
  go_wp2
  go_quiet (first | (go_at_call 127; refine Calls.quiet_of_same ((HE.out _).mono (fun e w' h => ⟨h.1, h.2.symm⟩))))
  all_goals go_wp2_with (go_at_call 127; with_reducible refine (HL.out _).mono ?_; rintro e wk ⟨rfl, hw⟩; subst hw)
  all_goals go_returns
  all_goals exact ⟨rfl, gr_drewN Gr.g⟩

end Go.Proofs.YtfakbjgbbcigpaaGreatDoor
