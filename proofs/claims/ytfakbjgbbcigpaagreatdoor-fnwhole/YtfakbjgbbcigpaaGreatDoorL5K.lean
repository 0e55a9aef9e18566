/- impl's kinds of integers. -/
import Derived.Test.YtfakbjgbbcigpaaGreatDoorA7
import Derived.Deep.DeepCutAuto
import Derived.Deep.RegionHeld3
set_option linter.unusedVariables false
set_option linter.unusedSimpArgs false
namespace Go.Proofs.YtfakbjgbbcigpaaGreatDoor
open Go.RowKit

set_option maxRecDepth 100000 in
set_option maxHeartbeats 2000000 in
theorem kindOf_0 (w : World) : Calls Tryz.prog 32 #[.int .i64 0] w fun e w' => e = .returned (.tuple #[.iface 115 (.agg #[.int .i32 (-2147483648), .int .i32 2147483647]), .bool true]) ∧ Gr w w' := by
  go_enter Tryz.func32, Tryz.ntmps32
  go_wp2
  go_returns
  exact ⟨rfl, Gr.g⟩

set_option maxRecDepth 100000 in
set_option maxHeartbeats 2000000 in
theorem kindOf_1 (w : World) : Calls Tryz.prog 32 #[.int .i64 1] w fun e w' => e = .returned (.tuple #[.iface 117 (.agg #[.int .i64 (-9223372036854775808), .int .i64 9223372036854775807]), .bool true]) ∧ Gr w w' := by
  go_enter Tryz.func32, Tryz.ntmps32
  go_wp2
  go_returns
  exact ⟨rfl, Gr.g⟩

set_option maxRecDepth 100000 in
set_option maxHeartbeats 2000000 in
theorem kindOf_2 (w : World) : Calls Tryz.prog 32 #[.int .i64 2] w fun e w' => e = .returned (.tuple #[.iface 120 (.agg #[.int .u32 0, .int .u32 4294967295]), .bool true]) ∧ Gr w w' := by
  go_enter Tryz.func32, Tryz.ntmps32
  go_wp2
  go_returns
  exact ⟨rfl, Gr.g⟩

set_option maxRecDepth 100000 in
set_option maxHeartbeats 2000000 in
theorem kindOf_3 (w : World) : Calls Tryz.prog 32 #[.int .i64 3] w fun e w' => e = .returned (.tuple #[.iface 122 (.agg #[.int .u64 0, .int .u64 18446744073709551615]), .bool true]) ∧ Gr w w' := by
  go_enter Tryz.func32, Tryz.ntmps32
  go_wp2
  go_returns
  exact ⟨rfl, Gr.g⟩

set_option maxRecDepth 100000 in
set_option maxHeartbeats 2000000 in
theorem kindOf_no (kind : Int) (h : ¬ (0 ≤ kind ∧ kind ≤ 3)) (w : World) : Calls Tryz.prog 32 #[.int .i64 kind] w fun e w' => e = .returned (.tuple #[Value.nilIface, .bool false]) ∧ Gr w w' := by
  rcases (show kind < 0 ∨ 4 ≤ kind by omega) with c | c
  all_goals
    clear h
    go_enter Tryz.func32, Tryz.ntmps32
    go_wp2
    go_returns
    exact ⟨rfl, Gr.g⟩
theorem turnedIf_1 (v m : Int) (h : IntKind.u64.wrap (-v) = m) (w : World) : Calls Tryz.prog 127 #[.int .i64 1, .int .u64 v] w fun e w' => e = .returned (.int .u64 m) ∧ w = w' := by
  go_enter Tryz.func127, Tryz.ntmps127
  go_wp2
  go_returns
  exact ⟨rfl, rfl⟩
theorem turnedIf_0 (v : Int) (w : World) : Calls Tryz.prog 127 #[.int .i64 0, .int .u64 v] w fun e w' => e = .returned (.int .u64 v) ∧ w = w' := by
  go_enter Tryz.func127, Tryz.ntmps127
  go_wp2
  go_returns
  exact ⟨rfl, rfl⟩

set_option maxRecDepth 100000 in
set_option maxHeartbeats 2000000 in
theorem fromWord_0n (v x y m : Int) (q : Bool) (hx : IntKind.i32.wrap v = x) (c : x < 0) (hy : IntKind.u64.wrap x = y) (hq : (y == v) = q) (hm : IntKind.u64.wrap (-v) = m) (w : World) :
    Calls Tryz.prog 125 #[.agg #[.int .i32 (-2147483648), .int .i32 2147483647], .int .u64 v] w fun e w' => e = .returned (.tuple #[.int .i64 1, .int .u64 m, .bool q]) ∧ Gr w w' := by
  have HT : Hid (∀ w, Calls Tryz.prog 127 #[.int .i64 1, .int .u64 v] w fun e w' => e = .returned (.int .u64 m) ∧ w = w') := fun w => turnedIf_1 v m hm w
  go_enter Tryz.func125, Tryz.ntmps125
  go_wp2_with (go_at_call 127; refine (HT.out _).mono ?_; rintro e wk ⟨rfl, hw⟩; subst hw)
  go_returns
  exact ⟨rfl, Gr.g⟩

set_option maxRecDepth 100000 in
set_option maxHeartbeats 2000000 in
theorem fromWord_0p (v x y : Int) (q : Bool) (hx : IntKind.i32.wrap v = x) (c : 0 ≤ x) (hy : IntKind.u64.wrap x = y) (hq : (y == v) = q) (w : World) :
    Calls Tryz.prog 125 #[.agg #[.int .i32 (-2147483648), .int .i32 2147483647], .int .u64 v] w fun e w' => e = .returned (.tuple #[.int .i64 0, .int .u64 v, .bool q]) ∧ Gr w w' := by
  have HT : Hid (∀ w, Calls Tryz.prog 127 #[.int .i64 0, .int .u64 v] w fun e w' => e = .returned (.int .u64 v) ∧ w = w') := fun w => turnedIf_0 v w
  go_enter Tryz.func125, Tryz.ntmps125
  go_wp2_with (go_at_call 127; refine (HT.out _).mono ?_; rintro e wk ⟨rfl, hw⟩; subst hw)
  go_returns
  exact ⟨rfl, Gr.g⟩

set_option maxRecDepth 100000 in
set_option maxHeartbeats 2000000 in
theorem fromWord_1n (v x y m : Int) (q : Bool) (hx : IntKind.i64.wrap v = x) (c : x < 0) (hy : IntKind.u64.wrap x = y) (hq : (y == v) = q) (hm : IntKind.u64.wrap (-v) = m) (w : World) :
    Calls Tryz.prog 128 #[.agg #[.int .i64 (-9223372036854775808), .int .i64 9223372036854775807], .int .u64 v] w fun e w' => e = .returned (.tuple #[.int .i64 1, .int .u64 m, .bool q]) ∧ Gr w w' := by
  have HT : Hid (∀ w, Calls Tryz.prog 127 #[.int .i64 1, .int .u64 v] w fun e w' => e = .returned (.int .u64 m) ∧ w = w') := fun w => turnedIf_1 v m hm w
  go_enter Tryz.func128, Tryz.ntmps128
  go_wp2_with (go_at_call 127; refine (HT.out _).mono ?_; rintro e wk ⟨rfl, hw⟩; subst hw)
  go_returns
  exact ⟨rfl, Gr.g⟩

set_option maxRecDepth 100000 in
set_option maxHeartbeats 2000000 in
theorem fromWord_1p (v x y : Int) (q : Bool) (hx : IntKind.i64.wrap v = x) (c : 0 ≤ x) (hy : IntKind.u64.wrap x = y) (hq : (y == v) = q) (w : World) :
    Calls Tryz.prog 128 #[.agg #[.int .i64 (-9223372036854775808), .int .i64 9223372036854775807], .int .u64 v] w fun e w' => e = .returned (.tuple #[.int .i64 0, .int .u64 v, .bool q]) ∧ Gr w w' := by
  have HT : Hid (∀ w, Calls Tryz.prog 127 #[.int .i64 0, .int .u64 v] w fun e w' => e = .returned (.int .u64 v) ∧ w = w') := fun w => turnedIf_0 v w
  go_enter Tryz.func128, Tryz.ntmps128
  go_wp2_with (go_at_call 127; refine (HT.out _).mono ?_; rintro e wk ⟨rfl, hw⟩; subst hw)
  go_returns
  exact ⟨rfl, Gr.g⟩

set_option maxRecDepth 100000 in
set_option maxHeartbeats 2000000 in
theorem fromWord_2p (v x y : Int) (q : Bool) (hx : IntKind.u32.wrap v = x) (c : 0 ≤ x) (hy : IntKind.u64.wrap x = y) (hq : (y == v) = q) (w : World) :
    Calls Tryz.prog 130 #[.agg #[.int .u32 0, .int .u32 4294967295], .int .u64 v] w fun e w' => e = .returned (.tuple #[.int .i64 0, .int .u64 v, .bool q]) ∧ Gr w w' := by
  have HT : Hid (∀ w, Calls Tryz.prog 127 #[.int .i64 0, .int .u64 v] w fun e w' => e = .returned (.int .u64 v) ∧ w = w') := fun w => turnedIf_0 v w
  go_enter Tryz.func130, Tryz.ntmps130
  go_wp2_with (go_at_call 127; refine (HT.out _).mono ?_; rintro e wk ⟨rfl, hw⟩; subst hw)
  go_returns
  exact ⟨rfl, Gr.g⟩

set_option maxRecDepth 100000 in
set_option maxHeartbeats 2000000 in
theorem fromWord_3p (v : Int) (c : 0 ≤ v) (hv : IntKind.u64.wrap v = v) (w : World) :
    Calls Tryz.prog 132 #[.agg #[.int .u64 0, .int .u64 18446744073709551615], .int .u64 v] w fun e w' => e = .returned (.tuple #[.int .i64 0, .int .u64 v, .bool true]) ∧ Gr w w' := by
  have HT : Hid (∀ w, Calls Tryz.prog 127 #[.int .i64 0, .int .u64 v] w fun e w' => e = .returned (.int .u64 v) ∧ w = w') := fun w => turnedIf_0 v w
  go_enter Tryz.func132, Tryz.ntmps132
  go_wp2_with (go_at_call 127; refine (HT.out _).mono ?_; rintro e wk ⟨rfl, hw⟩; subst hw)
  go_returns
  exact ⟨rfl, Gr.g⟩

end Go.Proofs.YtfakbjgbbcigpaaGreatDoor
