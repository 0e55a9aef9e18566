import Derived.Test.YtnbbfeknbfohhaaGreatDoorB7
import Derived.Deep.DeepCutAuto
import Derived.Test.YtnbbfeknbfohhaaGreatDoorA7
import Derived.Deep.RegionHeld3
import Derived.BigQuiet
import Derived.Deep.QuietTactic
set_option linter.unusedVariables false
set_option linter.unusedSimpArgs false
set_option maxHeartbeats 40000000
namespace Go.Proofs.YtnbbfeknbfohhaaGreatDoor
open Go.RowKit
set_option maxRecDepth 100000 in
theorem combine_toWhole (p mn mx md : Int) (k : Nat) (sx ex cx xh xl sy ey cy yh yl : Int) (tx ty : Bool) (m : Int) (hm : max cx cy = m) (h3 : m < 3) (Q : Int → Int → Int → Int → Int → Bool → Int → Prop) (HO : Hid (∀ w, Calls Tryz.prog 75 #[.agg #[.int .i64 p, .int .i64 mn, .int .i64 mx, .int .i64 md, .func (.func k) #[] #[]], .agg #[.int .i64 sx, .int .i64 ex, .int .i64 cx, .int .u64 xh, .int .u64 xl, .bool tx, .int .i64 0], .agg #[.int .i64 sy, .int .i64 ey, .int .i64 cy, .int .u64 yh, .int .u64 yl, .bool ty, .int .i64 0]] w fun e w' => ∃ os oe oc oh ol ot of, Q os oe oc oh ol ot of ∧ e = .returned (.agg #[.int .i64 os, .int .i64 oe, .int .i64 oc, .int .u64 oh, .int .u64 ol, .bool ot, .int .i64 of]) ∧ Gr w w')) (w : World) :
  Calls Tryz.prog 74 #[.agg #[.int .i64 p, .int .i64 mn, .int .i64 mx, .int .i64 md, .func (.func k) #[] #[]], .func (.func 75) #[] #[], .agg #[.int .i64 sx, .int .i64 ex, .int .i64 cx, .int .u64 xh, .int .u64 xl, .bool tx, .int .i64 0], .agg #[.int .i64 sy, .int .i64 ey, .int .i64 cy, .int .u64 yh, .int .u64 yl, .bool ty, .int .i64 0]] w fun e w' => ∃ os oe oc oh ol ot of, Q os oe oc oh ol ot of ∧ e = .returned (.agg #[.int .i64 os, .int .i64 oe, .int .i64 oc, .int .u64 oh, .int .u64 ol, .bool ot, .int .i64 of]) ∧ Gr w w' := by
 go_enter Tryz.func74, Tryz.ntmps74
 go_wp2_with (go_at_call 75; refine (HO.out _).mono ?_; rintro e w1 ⟨os, oe, oc, oh, ol, ot, of, hq, rfl, hg_w1⟩; obtain ⟨ar0, arz0, ar1, arz1, ar2, arz2, ar3, arz3, ar4, arz4, ar5, arz5, ar6, arz6⟩ := hg_w1.y7 (w.heap.size + 1 + 1 + 1) 0 1 2 3 4 5 6 (.int .i64 0) (.int .i64 0) (.int .i64 0) (.int .u64 0) (.int .u64 0) (.bool false) (.int .i64 0))
 refine bodyPost_ret (v := .agg #[.int .i64 os, .int .i64 oe, .int .i64 oc, .int .u64 oh, .int .u64 ol, .bool ot, .int .i64 of]) (by simp [results, Tryz.results74, go_sem, ar0, ar1, ar2, ar3, ar4, ar5, ar6]) rfl ⟨os, oe, oc, oh, ol, ot, of, hq, rfl, ?_⟩
 exact Gr.g
end Go.Proofs.YtnbbfeknbfohhaaGreatDoor
namespace Go.Proofs.YtnbbfeknbfohhaaGreatDoor
open Go.RowKit
set_option maxRecDepth 1000000 in
theorem toWhole_c (p mn mx md : Int) (k : Nat) (sx ex cx xh xl sy ey cy yh yl : Int) (tx ty : Bool) (c : (cx != 1) = true) (w : World) :
  Calls Tryz.prog 75 #[.agg #[.int .i64 p, .int .i64 mn, .int .i64 mx, .int .i64 md, .func (.func k) #[] #[]], .agg #[.int .i64 sx, .int .i64 ex, .int .i64 cx, .int .u64 xh, .int .u64 xl, .bool tx, .int .i64 0], .agg #[.int .i64 sy, .int .i64 ey, .int .i64 cy, .int .u64 yh, .int .u64 yl, .bool ty, .int .i64 0]] w fun e w' => e = .returned (.agg #[.int .i64 sx, .int .i64 ex, .int .i64 cx, .int .u64 xh, .int .u64 xl, .bool tx, .int .i64 0]) ∧ Gr w w' := by
 go_enter Tryz.func75, Tryz.ntmps75
 go_wp2
 go_returns
 exact ⟨rfl, Gr.g⟩
set_option maxRecDepth 1000000 in
theorem toWhole_e (p mn mx md : Int) (k : Nat) (sx ex cx xh xl sy ey cy yh yl : Int) (tx ty : Bool) (c : cx = 1) (c2 : decide (0 ≤ ex) = true) (w : World) :
  Calls Tryz.prog 75 #[.agg #[.int .i64 p, .int .i64 mn, .int .i64 mx, .int .i64 md, .func (.func k) #[] #[]], .agg #[.int .i64 sx, .int .i64 ex, .int .i64 cx, .int .u64 xh, .int .u64 xl, .bool tx, .int .i64 0], .agg #[.int .i64 sy, .int .i64 ey, .int .i64 cy, .int .u64 yh, .int .u64 yl, .bool ty, .int .i64 0]] w fun e w' => e = .returned (.agg #[.int .i64 sx, .int .i64 ex, .int .i64 1, .int .u64 xh, .int .u64 xl, .bool tx, .int .i64 0]) ∧ Gr w w' := by
 subst c
 go_enter Tryz.func75, Tryz.ntmps75
 go_wp2
 go_returns
 exact ⟨rfl, Gr.g⟩
set_option maxRecDepth 1000000 in
theorem toWhole_x (p mn mx md : Int) (k : Nat) (sx ex cx xh xl sy ey cy yh yl : Int) (tx ty : Bool) (dr m : Int) (c : cx = 1) (c2 : decide (0 ≤ ex) = false) (hn : wrap64 (-ex) = dr) (HR : KR 161 #[.func (.func k) #[] #[], .int .i64 dr, .int .i64 sx, .agg #[.int .u64 xh, .int .u64 xl], .bool false] (.tuple #[.int .u64 m, .bool true])) (w : World) :
  Calls Tryz.prog 75 #[.agg #[.int .i64 p, .int .i64 mn, .int .i64 mx, .int .i64 md, .func (.func k) #[] #[]], .agg #[.int .i64 sx, .int .i64 ex, .int .i64 cx, .int .u64 xh, .int .u64 xl, .bool tx, .int .i64 0], .agg #[.int .i64 sy, .int .i64 ey, .int .i64 cy, .int .u64 yh, .int .u64 yl, .bool ty, .int .i64 0]] w fun e w' => e = .returned (.agg #[.int .i64 sx, .int .i64 0, .int .i64 1, .int .u64 0, .int .u64 m, .bool tx, .int .i64 16]) ∧ Gr w w' := by
 subst c
 go_enter Tryz.func75, Tryz.ntmps75
 go_wp2_with (go_at_call 161; refine (HR.out _).mono ?_; rintro x w1 ⟨rfl, hg_w1⟩; obtain ⟨ax0, axz0, ax1, axz1, ax2, axz2, ax3, axz3, ax4, axz4, ax5, axz5, ax6, axz6⟩ := hg_w1.y7 (w.heap.size + 1) 0 1 2 3 4 5 6 (.int .i64 sx) (.int .i64 ex) (.int .i64 1) (.int .u64 xh) (.int .u64 xl) (.bool tx) (.int .i64 0); obtain ⟨ar0, arz0, ar1, arz1, ar2, arz2, ar3, arz3, ar4, arz4, ar5, arz5, ar6, arz6⟩ := hg_w1.y7 (w.heap.size + 1 + 1 + 1) 0 1 2 3 4 5 6 (.int .i64 0) (.int .i64 0) (.int .i64 0) (.int .u64 0) (.int .u64 0) (.bool false) (.int .i64 0); have hz1 := cell_size ar0)
 refine bodyPost_ret (v := .agg #[.int .i64 sx, .int .i64 0, .int .i64 1, .int .u64 0, .int .u64 m, .bool tx, .int .i64 16]) (by simp [results, Tryz.results75, go_sem, ar0, ar1, ar2, ar3, ar4, ar5, ar6]) rfl ⟨rfl, ?_⟩
 exact Gr.g
set_option maxRecDepth 1000000 in
theorem toWhole_w (p mn mx md : Int) (k : Nat) (sx ex cx xh xl sy ey cy yh yl : Int) (tx ty : Bool) (dr m : Int) (c : cx = 1) (c2 : decide (0 ≤ ex) = false) (hn : wrap64 (-ex) = dr) (HR : KR 161 #[.func (.func k) #[] #[], .int .i64 dr, .int .i64 sx, .agg #[.int .u64 xh, .int .u64 xl], .bool false] (.tuple #[.int .u64 m, .bool false])) (w : World) :
  Calls Tryz.prog 75 #[.agg #[.int .i64 p, .int .i64 mn, .int .i64 mx, .int .i64 md, .func (.func k) #[] #[]], .agg #[.int .i64 sx, .int .i64 ex, .int .i64 cx, .int .u64 xh, .int .u64 xl, .bool tx, .int .i64 0], .agg #[.int .i64 sy, .int .i64 ey, .int .i64 cy, .int .u64 yh, .int .u64 yl, .bool ty, .int .i64 0]] w fun e w' => e = .returned (.agg #[.int .i64 sx, .int .i64 0, .int .i64 1, .int .u64 0, .int .u64 m, .bool tx, .int .i64 0]) ∧ Gr w w' := by
 subst c
 go_enter Tryz.func75, Tryz.ntmps75
 go_wp2_with (go_at_call 161; refine (HR.out _).mono ?_; rintro x w1 ⟨rfl, hg_w1⟩; obtain ⟨ax0, axz0, ax1, axz1, ax2, axz2, ax3, axz3, ax4, axz4, ax5, axz5, ax6, axz6⟩ := hg_w1.y7 (w.heap.size + 1) 0 1 2 3 4 5 6 (.int .i64 sx) (.int .i64 ex) (.int .i64 1) (.int .u64 xh) (.int .u64 xl) (.bool tx) (.int .i64 0); obtain ⟨ar0, arz0, ar1, arz1, ar2, arz2, ar3, arz3, ar4, arz4, ar5, arz5, ar6, arz6⟩ := hg_w1.y7 (w.heap.size + 1 + 1 + 1) 0 1 2 3 4 5 6 (.int .i64 0) (.int .i64 0) (.int .i64 0) (.int .u64 0) (.int .u64 0) (.bool false) (.int .i64 0); have hz1 := cell_size ar0)
 refine bodyPost_ret (v := .agg #[.int .i64 sx, .int .i64 0, .int .i64 1, .int .u64 0, .int .u64 m, .bool tx, .int .i64 0]) (by simp [results, Tryz.results75, go_sem, ar0, ar1, ar2, ar3, ar4, ar5, ar6]) rfl ⟨rfl, ?_⟩
 exact Gr.g
set_option maxRecDepth 1000000 in
theorem rint_x (f mode a : Int) (R : Int → Int → Prop) {w : World} (HC : Hid (∀ w', Gr w w' → Calls Tryz.prog 130 #[.int .i64 f, .int .i64 mode, .func (.func 75) #[] #[], .int .u64 a, .int .u64 a] w' fun e w'' => ∃ z fl, R z fl ∧ e = .returned (.agg #[.int .u64 z, .int .i64 fl]) ∧ Gr w' w'')) :
  Calls Tryz.prog 41 #[.int .i64 f, .int .i64 mode, .int .u64 a, .bool true] w fun e w' => ∃ z fl, R z fl ∧ e = .returned (.agg #[.int .u64 z, .int .i64 fl]) ∧ Gr w w' := by
 go_enter Tryz.func41, Tryz.ntmps41
 go_upto_region 2 with (go_at_call 130; refine (HC.out _ Gr.g).mono ?_; rintro e w1 ⟨z, fl, hr, rfl, hg_w1⟩; obtain ⟨ar0, arz0, ar1, arz1⟩ := hg_w1.y2 w.heap.size 0 1 (.int .u64 0) (.int .i64 0); have hz1 := cell_size ar0)
 obtain ⟨w2, hw2⟩ : ∃ w2, w1.alloc (.cells #[.int .u64 z, .int .i64 fl] 41) = w2 := ⟨_, rfl⟩
 have hg_w2 : Gr w1 w2 := by rw [← hw2]; exact (Gr.refl _).alloc _ _
 have x0 : w2.cell? ⟨w1.heap.size, 0, none⟩ = some (.int .u64 z) := by rw [← hw2]; simp [go_sem]
 have x1 : w2.cell? ⟨w1.heap.size, 1, none⟩ = some (.int .i64 fl) := by rw [← hw2]; simp [go_sem]
 have xz1 : w2.frozen? ⟨w1.heap.size, 1, none⟩ = false := by rw [← hw2]; simp [go_sem]
 have hz2 : w1.heap.size < w2.heap.size := by rw [← hw2]; simp
 rw [hw2]
 clear hw2
 obtain ⟨br0, brz0, br1, brz1⟩ := hg_w2.y2 w.heap.size 0 1 (.int .u64 0) (.int .i64 0)
 have hgw : Gr w w2 := Gr.g
 go_wp2
 refine bodyPost_ret (v := .agg #[.int .u64 z, .int .i64 fl]) (by simp [results, Tryz.results41, go_sem, br0, br1]) rfl ⟨z, fl, hr, rfl, ?_⟩
 exact Gr.g
set_option maxRecDepth 1000000 in
theorem rint_n (f mode a : Int) (R : Int → Int → Prop) (G : Int → Int) (hG : Hid (∀ z fl, R z fl → bits .andNot .i64 fl 16 = G fl)) {w : World} (HC : Hid (∀ w', Gr w w' → Calls Tryz.prog 130 #[.int .i64 f, .int .i64 mode, .func (.func 75) #[] #[], .int .u64 a, .int .u64 a] w' fun e w'' => ∃ z fl, R z fl ∧ e = .returned (.agg #[.int .u64 z, .int .i64 fl]) ∧ Gr w' w'')) :
  Calls Tryz.prog 41 #[.int .i64 f, .int .i64 mode, .int .u64 a, .bool false] w fun e w' => ∃ z fl, R z fl ∧ e = .returned (.agg #[.int .u64 z, .int .i64 (G fl)]) ∧ Gr w w' := by
 go_enter Tryz.func41, Tryz.ntmps41
 go_upto_region 2 with (go_at_call 130; refine (HC.out _ Gr.g).mono ?_; rintro e w1 ⟨z, fl, hr, rfl, hg_w1⟩; obtain ⟨ar0, arz0, ar1, arz1⟩ := hg_w1.y2 w.heap.size 0 1 (.int .u64 0) (.int .i64 0); have hz1 := cell_size ar0; have hand := hG.out z fl hr)
 obtain ⟨w2, hw2⟩ : ∃ w2, w1.alloc (.cells #[.int .u64 z, .int .i64 fl] 41) = w2 := ⟨_, rfl⟩
 have hg_w2 : Gr w1 w2 := by rw [← hw2]; exact (Gr.refl _).alloc _ _
 have x0 : w2.cell? ⟨w1.heap.size, 0, none⟩ = some (.int .u64 z) := by rw [← hw2]; simp [go_sem]
 have x1 : w2.cell? ⟨w1.heap.size, 1, none⟩ = some (.int .i64 fl) := by rw [← hw2]; simp [go_sem]
 have xz1 : w2.frozen? ⟨w1.heap.size, 1, none⟩ = false := by rw [← hw2]; simp [go_sem]
 have hz2 : w1.heap.size < w2.heap.size := by rw [← hw2]; simp
 rw [hw2]
 clear hw2
 obtain ⟨br0, brz0, br1, brz1⟩ := hg_w2.y2 w.heap.size 0 1 (.int .u64 0) (.int .i64 0)
 have hgw : Gr w w2 := Gr.g
 go_wp2
 refine bodyPost_ret (v := .agg #[.int .u64 z, .int .i64 (G fl)]) (by simp [results, Tryz.results41, go_sem, br0, br1]) rfl ⟨z, fl, hr, rfl, ?_⟩
 exact Gr.g
end Go.Proofs.YtnbbfeknbfohhaaGreatDoor
namespace Go.Proofs.YtnbbfeknbfohhaaGreatDoor
open Go.RowKit
set_option maxRecDepth 100000 in
theorem kindOf_0 (w : World) : Calls Tryz.prog 71 #[.int .i64 0] w fun e w' => e = .returned (.tuple #[.iface 176 (.agg #[.int .i32 (-2147483648), .int .i32 2147483647]), .bool true]) ∧ Gr w w' := by
 go_enter Tryz.func71, Tryz.ntmps71
 go_wp2
 go_returns
 exact ⟨rfl, Gr.g⟩
set_option maxRecDepth 100000 in
theorem kindOf_1 (w : World) : Calls Tryz.prog 71 #[.int .i64 1] w fun e w' => e = .returned (.tuple #[.iface 178 (.agg #[.int .i64 (-9223372036854775808), .int .i64 9223372036854775807]), .bool true]) ∧ Gr w w' := by
 go_enter Tryz.func71, Tryz.ntmps71
 go_wp2
 go_returns
 exact ⟨rfl, Gr.g⟩
set_option maxRecDepth 100000 in
theorem kindOf_2 (w : World) : Calls Tryz.prog 71 #[.int .i64 2] w fun e w' => e = .returned (.tuple #[.iface 181 (.agg #[.int .u32 0, .int .u32 4294967295]), .bool true]) ∧ Gr w w' := by
 go_enter Tryz.func71, Tryz.ntmps71
 go_wp2
 go_returns
 exact ⟨rfl, Gr.g⟩
set_option maxRecDepth 100000 in
theorem kindOf_3 (w : World) : Calls Tryz.prog 71 #[.int .i64 3] w fun e w' => e = .returned (.tuple #[.iface 183 (.agg #[.int .u64 0, .int .u64 18446744073709551615]), .bool true]) ∧ Gr w w' := by
 go_enter Tryz.func71, Tryz.ntmps71
 go_wp2
 go_returns
 exact ⟨rfl, Gr.g⟩
set_option maxRecDepth 100000 in
theorem kindOf_no (kind : Int) (h : ¬ (0 ≤ kind ∧ kind ≤ 3)) (w : World) : Calls Tryz.prog 71 #[.int .i64 kind] w fun e w' => e = .returned (.tuple #[Value.nilIface, .bool false]) ∧ Gr w w' := by
 rcases (show kind < 0 ∨ 4 ≤ kind by omega) with c | c
 all_goals
  clear h
  go_enter Tryz.func71, Tryz.ntmps71
  go_wp2
  go_returns
  exact ⟨rfl, Gr.g⟩
theorem turnedIf_1 (v m : Int) (h : IntKind.u64.wrap (-v) = m) (w : World) : Calls Tryz.prog 269 #[.int .i64 1, .int .u64 v] w fun e w' => e = .returned (.int .u64 m) ∧ w = w' := by
 go_enter Tryz.func269, Tryz.ntmps269
 go_wp2
 go_returns
 exact ⟨rfl, rfl⟩
theorem turnedIf_0 (v : Int) (w : World) : Calls Tryz.prog 269 #[.int .i64 0, .int .u64 v] w fun e w' => e = .returned (.int .u64 v) ∧ w = w' := by
 go_enter Tryz.func269, Tryz.ntmps269
 go_wp2
 go_returns
 exact ⟨rfl, rfl⟩
set_option maxRecDepth 100000 in
theorem fromWord_0n (v x y m : Int) (q : Bool) (hx : IntKind.i32.wrap v = x) (c : x < 0) (hy : IntKind.u64.wrap x = y) (hq : (y == v) = q) (hm : IntKind.u64.wrap (-v) = m) (w : World) :
  Calls Tryz.prog 267 #[.agg #[.int .i32 (-2147483648), .int .i32 2147483647], .int .u64 v] w fun e w' => e = .returned (.tuple #[.int .i64 1, .int .u64 m, .bool q]) ∧ Gr w w' := by
 have HT : KW 269 #[.int .i64 1, .int .u64 v] (.int .u64 m) := fun w => turnedIf_1 v m hm w
 go_enter Tryz.func267, Tryz.ntmps267
 go_wp2_with (go_at_call 269; refine kw (HT.out _) ?_)
 go_returns
 exact ⟨rfl, Gr.g⟩
set_option maxRecDepth 100000 in
theorem fromWord_0p (v x y : Int) (q : Bool) (hx : IntKind.i32.wrap v = x) (c : 0 ≤ x) (hy : IntKind.u64.wrap x = y) (hq : (y == v) = q) (w : World) :
  Calls Tryz.prog 267 #[.agg #[.int .i32 (-2147483648), .int .i32 2147483647], .int .u64 v] w fun e w' => e = .returned (.tuple #[.int .i64 0, .int .u64 v, .bool q]) ∧ Gr w w' := by
 have HT : KW 269 #[.int .i64 0, .int .u64 v] (.int .u64 v) := fun w => turnedIf_0 v w
 go_enter Tryz.func267, Tryz.ntmps267
 go_wp2_with (go_at_call 269; refine kw (HT.out _) ?_)
 go_returns
 exact ⟨rfl, Gr.g⟩
set_option maxRecDepth 100000 in
theorem fromWord_1n (v x y m : Int) (q : Bool) (hx : IntKind.i64.wrap v = x) (c : x < 0) (hy : IntKind.u64.wrap x = y) (hq : (y == v) = q) (hm : IntKind.u64.wrap (-v) = m) (w : World) :
  Calls Tryz.prog 270 #[.agg #[.int .i64 (-9223372036854775808), .int .i64 9223372036854775807], .int .u64 v] w fun e w' => e = .returned (.tuple #[.int .i64 1, .int .u64 m, .bool q]) ∧ Gr w w' := by
 have HT : KW 269 #[.int .i64 1, .int .u64 v] (.int .u64 m) := fun w => turnedIf_1 v m hm w
 go_enter Tryz.func270, Tryz.ntmps270
 go_wp2_with (go_at_call 269; refine kw (HT.out _) ?_)
 go_returns
 exact ⟨rfl, Gr.g⟩
set_option maxRecDepth 100000 in
theorem fromWord_1p (v x y : Int) (q : Bool) (hx : IntKind.i64.wrap v = x) (c : 0 ≤ x) (hy : IntKind.u64.wrap x = y) (hq : (y == v) = q) (w : World) :
  Calls Tryz.prog 270 #[.agg #[.int .i64 (-9223372036854775808), .int .i64 9223372036854775807], .int .u64 v] w fun e w' => e = .returned (.tuple #[.int .i64 0, .int .u64 v, .bool q]) ∧ Gr w w' := by
 have HT : KW 269 #[.int .i64 0, .int .u64 v] (.int .u64 v) := fun w => turnedIf_0 v w
 go_enter Tryz.func270, Tryz.ntmps270
 go_wp2_with (go_at_call 269; refine kw (HT.out _) ?_)
 go_returns
 exact ⟨rfl, Gr.g⟩
set_option maxRecDepth 100000 in
theorem fromWord_2p (v x y : Int) (q : Bool) (hx : IntKind.u32.wrap v = x) (c : 0 ≤ x) (hy : IntKind.u64.wrap x = y) (hq : (y == v) = q) (w : World) :
  Calls Tryz.prog 272 #[.agg #[.int .u32 0, .int .u32 4294967295], .int .u64 v] w fun e w' => e = .returned (.tuple #[.int .i64 0, .int .u64 v, .bool q]) ∧ Gr w w' := by
 have HT : KW 269 #[.int .i64 0, .int .u64 v] (.int .u64 v) := fun w => turnedIf_0 v w
 go_enter Tryz.func272, Tryz.ntmps272
 go_wp2_with (go_at_call 269; refine kw (HT.out _) ?_)
 go_returns
 exact ⟨rfl, Gr.g⟩
set_option maxRecDepth 100000 in
theorem fromWord_3p (v : Int) (c : 0 ≤ v) (hv : IntKind.u64.wrap v = v) (w : World) :
  Calls Tryz.prog 274 #[.agg #[.int .u64 0, .int .u64 18446744073709551615], .int .u64 v] w fun e w' => e = .returned (.tuple #[.int .i64 0, .int .u64 v, .bool true]) ∧ Gr w w' := by
 have HT : KW 269 #[.int .i64 0, .int .u64 v] (.int .u64 v) := fun w => turnedIf_0 v w
 go_enter Tryz.func274, Tryz.ntmps274
 go_wp2_with (go_at_call 269; refine kw (HT.out _) ?_)
 go_returns
 exact ⟨rfl, Gr.g⟩
end Go.Proofs.YtnbbfeknbfohhaaGreatDoor
namespace Go.Proofs.YtnbbfeknbfohhaaGreatDoor
open Go.RowKit
theorem twL5b10 {P : Prop} (h : P := by
 have HE : KW 269 #[.int .i64 0, .int .u64 4294967295] (.int .u64 4294967295) := fun w => turnedIf_0 _ w
 go_enter Tryz.func273, Tryz.ntmps273
 exact twL5b0) : P := h
theorem twL5b9 {P : Prop} (h : P := by
 have HE : KW 269 #[.int .i64 0, .int .u64 2147483647] (.int .u64 2147483647) := fun w => turnedIf_0 _ w
 go_enter Tryz.func268, Tryz.ntmps268
 exact twL5b0) : P := h
theorem twL5b8 {P : Prop} (h : P := by
 have HE : KW 269 #[.int .i64 1, .int .u64 0] (.int .u64 0) := fun w => turnedIf_1 _ _ (by decide +kernel) w
 go_enter Tryz.func275, Tryz.ntmps275
 exact twL5b0) : P := h
theorem twL5b7 {P : Prop} (h : P := by
 have HE : KW 269 #[.int .i64 1, .int .u64 0] (.int .u64 0) := fun w => turnedIf_1 _ _ (by decide +kernel) w
 go_enter Tryz.func273, Tryz.ntmps273
 exact twL5b0) : P := h
theorem twL5b6 {P : Prop} (h : P := by
 have HE : KW 269 #[.int .i64 0, .int .u64 9223372036854775807] (.int .u64 9223372036854775807) := fun w => turnedIf_0 _ w
 go_enter Tryz.func271, Tryz.ntmps271
 exact twL5b0) : P := h
theorem twL5b5 {P : Prop} (h : P := by
 have HE : KW 269 #[.int .i64 0, .int .u64 18446744073709551615] (.int .u64 18446744073709551615) := fun w => turnedIf_0 _ w
 go_enter Tryz.func275, Tryz.ntmps275
 exact twL5b0) : P := h
theorem twL5b4 {P : Prop} (h : P := by
 have HE : KW 269 #[.int .i64 1, .int .u64 18446744071562067968] (.int .u64 2147483648) := fun w => turnedIf_1 _ _ (by decide +kernel) w
 have u1 : IntKind.u64.wrap (-2147483648) = 18446744071562067968 := by decide +kernel
 go_enter Tryz.func268, Tryz.ntmps268
 exact twL5b0) : P := h
theorem twL5b3 {P : Prop} (h : P := by
 have HE : KW 269 #[.int .i64 1, .int .u64 9223372036854775808] (.int .u64 9223372036854775808) := fun w => turnedIf_1 _ _ (by decide +kernel) w
 have u1 : IntKind.u64.wrap (-9223372036854775808) = 9223372036854775808 := by decide +kernel
 go_enter Tryz.func271, Tryz.ntmps271
 exact twL5b0) : P := h
theorem twL5b1 {P : Prop} (h : P := by
 go_wp2
 go_quiet (first | (go_at_call 269; refine Calls.quiet_of_same ((HE.out _).mono (fun e w' h => ⟨h.1, h.2.symm⟩))))
 all_goals go_wp2_with (go_at_call 269; with_reducible refine kw (HL.out _) ?_)
 all_goals go_returns
 all_goals exact ⟨rfl, gr_drewN Gr.g⟩) : P := h
theorem twL5b0 {P : Prop} (h : P := by
 go_wp2
 go_quiet (first | (go_at_call 269; refine Calls.quiet_of_same ((HE.out _).mono (fun e w' h => ⟨h.1, h.2.symm⟩))))
 all_goals go_wp2
 all_goals go_returns
 all_goals exact ⟨rfl, gr_drewN Gr.g⟩) : P := h
theorem gr_drewN {W w : World} (h : Gr W w) {n : Nat} : Gr W (w.drewN n) := by
 obtain ⟨⟨⟨a1, a2, a3⟩, b, c⟩, d⟩ := h
 exact ⟨⟨⟨a1, a2, a3⟩, b, c⟩, below_drewN d n⟩
attribute [local go_sem] undef in
set_option maxRecDepth 100000 in
theorem toWord_00_far (hi lo : Int) (c : (hi != 0) = true) (w : World) :
  Calls Tryz.prog 268 #[.agg #[.int .i32 (-2147483648), .int .i32 2147483647], .int .i64 0, .agg #[.int .u64 hi, .int .u64 lo]] w fun e w' => e = .returned (.tuple #[.int .u64 2147483647, .bool false]) ∧ Gr w w' := by
 exact twL5b9
attribute [local go_sem] undef in
set_option maxRecDepth 100000 in
theorem toWord_00_big (hi lo : Int) (c : hi = 0) (c2 : decide (2147483647 < lo) = true) (w : World) :
  Calls Tryz.prog 268 #[.agg #[.int .i32 (-2147483648), .int .i32 2147483647], .int .i64 0, .agg #[.int .u64 hi, .int .u64 lo]] w fun e w' => e = .returned (.tuple #[.int .u64 2147483647, .bool false]) ∧ Gr w w' := by
 subst c
 exact twL5b9
attribute [local go_sem] undef in
set_option maxRecDepth 100000 in
theorem toWord_00_ok (hi lo : Int) (c : hi = 0) (c2 : decide (2147483647 < lo) = false) (w : World) :
  Calls Tryz.prog 268 #[.agg #[.int .i32 (-2147483648), .int .i32 2147483647], .int .i64 0, .agg #[.int .u64 hi, .int .u64 lo]] w fun e w' => e = .returned (.tuple #[.int .u64 lo, .bool true]) ∧ Gr w w' := by
 subst c
 have HE : KW 269 #[.int .i64 0, .int .u64 2147483647] (.int .u64 2147483647) := fun w => turnedIf_0 _ w
 have HL : KW 269 #[.int .i64 0, .int .u64 lo] (.int .u64 lo) := fun w => turnedIf_0 _ w
 go_enter Tryz.func268, Tryz.ntmps268
 exact twL5b1
attribute [local go_sem] undef in
set_option maxRecDepth 100000 in
theorem toWord_01_far (hi lo : Int) (c : (hi != 0) = true) (w : World) :
  Calls Tryz.prog 268 #[.agg #[.int .i32 (-2147483648), .int .i32 2147483647], .int .i64 1, .agg #[.int .u64 hi, .int .u64 lo]] w fun e w' => e = .returned (.tuple #[.int .u64 18446744071562067968, .bool false]) ∧ Gr w w' := by
 exact twL5b4
attribute [local go_sem] undef in
set_option maxRecDepth 100000 in
theorem toWord_01_big (hi lo : Int) (c : hi = 0) (c2 : decide (2147483648 < lo) = true) (w : World) :
  Calls Tryz.prog 268 #[.agg #[.int .i32 (-2147483648), .int .i32 2147483647], .int .i64 1, .agg #[.int .u64 hi, .int .u64 lo]] w fun e w' => e = .returned (.tuple #[.int .u64 18446744071562067968, .bool false]) ∧ Gr w w' := by
 subst c
 exact twL5b4
attribute [local go_sem] undef in
set_option maxRecDepth 100000 in
theorem toWord_01_ok (hi lo r : Int) (c : hi = 0) (c2 : decide (2147483648 < lo) = false) (hr : IntKind.u64.wrap (-lo) = r) (w : World) :
  Calls Tryz.prog 268 #[.agg #[.int .i32 (-2147483648), .int .i32 2147483647], .int .i64 1, .agg #[.int .u64 hi, .int .u64 lo]] w fun e w' => e = .returned (.tuple #[.int .u64 r, .bool true]) ∧ Gr w w' := by
 subst c
 have HE : KW 269 #[.int .i64 1, .int .u64 18446744071562067968] (.int .u64 2147483648) := fun w => turnedIf_1 _ _ (by decide +kernel) w
 have HL : KW 269 #[.int .i64 1, .int .u64 lo] (.int .u64 r) := fun w => turnedIf_1 _ _ hr w
 have u1 : IntKind.u64.wrap (-2147483648) = 18446744071562067968 := by decide +kernel
 go_enter Tryz.func268, Tryz.ntmps268
 exact twL5b1
attribute [local go_sem] undef in
set_option maxRecDepth 100000 in
theorem toWord_10_far (hi lo : Int) (c : (hi != 0) = true) (w : World) :
  Calls Tryz.prog 271 #[.agg #[.int .i64 (-9223372036854775808), .int .i64 9223372036854775807], .int .i64 0, .agg #[.int .u64 hi, .int .u64 lo]] w fun e w' => e = .returned (.tuple #[.int .u64 9223372036854775807, .bool false]) ∧ Gr w w' := by
 exact twL5b6
attribute [local go_sem] undef in
set_option maxRecDepth 100000 in
theorem toWord_10_big (hi lo : Int) (c : hi = 0) (c2 : decide (9223372036854775807 < lo) = true) (w : World) :
  Calls Tryz.prog 271 #[.agg #[.int .i64 (-9223372036854775808), .int .i64 9223372036854775807], .int .i64 0, .agg #[.int .u64 hi, .int .u64 lo]] w fun e w' => e = .returned (.tuple #[.int .u64 9223372036854775807, .bool false]) ∧ Gr w w' := by
 subst c
 exact twL5b6
attribute [local go_sem] undef in
set_option maxRecDepth 100000 in
theorem toWord_10_ok (hi lo : Int) (c : hi = 0) (c2 : decide (9223372036854775807 < lo) = false) (w : World) :
  Calls Tryz.prog 271 #[.agg #[.int .i64 (-9223372036854775808), .int .i64 9223372036854775807], .int .i64 0, .agg #[.int .u64 hi, .int .u64 lo]] w fun e w' => e = .returned (.tuple #[.int .u64 lo, .bool true]) ∧ Gr w w' := by
 subst c
 have HE : KW 269 #[.int .i64 0, .int .u64 9223372036854775807] (.int .u64 9223372036854775807) := fun w => turnedIf_0 _ w
 have HL : KW 269 #[.int .i64 0, .int .u64 lo] (.int .u64 lo) := fun w => turnedIf_0 _ w
 go_enter Tryz.func271, Tryz.ntmps271
 exact twL5b1
attribute [local go_sem] undef in
set_option maxRecDepth 100000 in
theorem toWord_11_far (hi lo : Int) (c : (hi != 0) = true) (w : World) :
  Calls Tryz.prog 271 #[.agg #[.int .i64 (-9223372036854775808), .int .i64 9223372036854775807], .int .i64 1, .agg #[.int .u64 hi, .int .u64 lo]] w fun e w' => e = .returned (.tuple #[.int .u64 9223372036854775808, .bool false]) ∧ Gr w w' := by
 exact twL5b3
attribute [local go_sem] undef in
set_option maxRecDepth 100000 in
theorem toWord_11_big (hi lo : Int) (c : hi = 0) (c2 : decide (9223372036854775808 < lo) = true) (w : World) :
  Calls Tryz.prog 271 #[.agg #[.int .i64 (-9223372036854775808), .int .i64 9223372036854775807], .int .i64 1, .agg #[.int .u64 hi, .int .u64 lo]] w fun e w' => e = .returned (.tuple #[.int .u64 9223372036854775808, .bool false]) ∧ Gr w w' := by
 subst c
 exact twL5b3
attribute [local go_sem] undef in
set_option maxRecDepth 100000 in
theorem toWord_11_ok (hi lo r : Int) (c : hi = 0) (c2 : decide (9223372036854775808 < lo) = false) (hr : IntKind.u64.wrap (-lo) = r) (w : World) :
  Calls Tryz.prog 271 #[.agg #[.int .i64 (-9223372036854775808), .int .i64 9223372036854775807], .int .i64 1, .agg #[.int .u64 hi, .int .u64 lo]] w fun e w' => e = .returned (.tuple #[.int .u64 r, .bool true]) ∧ Gr w w' := by
 subst c
 have HE : KW 269 #[.int .i64 1, .int .u64 9223372036854775808] (.int .u64 9223372036854775808) := fun w => turnedIf_1 _ _ (by decide +kernel) w
 have HL : KW 269 #[.int .i64 1, .int .u64 lo] (.int .u64 r) := fun w => turnedIf_1 _ _ hr w
 have u1 : IntKind.u64.wrap (-9223372036854775808) = 9223372036854775808 := by decide +kernel
 go_enter Tryz.func271, Tryz.ntmps271
 exact twL5b1
attribute [local go_sem] undef in
set_option maxRecDepth 100000 in
theorem toWord_20_far (hi lo : Int) (c : (hi != 0) = true) (w : World) :
  Calls Tryz.prog 273 #[.agg #[.int .u32 0, .int .u32 4294967295], .int .i64 0, .agg #[.int .u64 hi, .int .u64 lo]] w fun e w' => e = .returned (.tuple #[.int .u64 4294967295, .bool false]) ∧ Gr w w' := by
 exact twL5b10
attribute [local go_sem] undef in
set_option maxRecDepth 100000 in
theorem toWord_20_big (hi lo : Int) (c : hi = 0) (c2 : decide (4294967295 < lo) = true) (w : World) :
  Calls Tryz.prog 273 #[.agg #[.int .u32 0, .int .u32 4294967295], .int .i64 0, .agg #[.int .u64 hi, .int .u64 lo]] w fun e w' => e = .returned (.tuple #[.int .u64 4294967295, .bool false]) ∧ Gr w w' := by
 subst c
 exact twL5b10
attribute [local go_sem] undef in
set_option maxRecDepth 100000 in
theorem toWord_20_ok (hi lo : Int) (c : hi = 0) (c2 : decide (4294967295 < lo) = false) (w : World) :
  Calls Tryz.prog 273 #[.agg #[.int .u32 0, .int .u32 4294967295], .int .i64 0, .agg #[.int .u64 hi, .int .u64 lo]] w fun e w' => e = .returned (.tuple #[.int .u64 lo, .bool true]) ∧ Gr w w' := by
 subst c
 have HE : KW 269 #[.int .i64 0, .int .u64 4294967295] (.int .u64 4294967295) := fun w => turnedIf_0 _ w
 have HL : KW 269 #[.int .i64 0, .int .u64 lo] (.int .u64 lo) := fun w => turnedIf_0 _ w
 go_enter Tryz.func273, Tryz.ntmps273
 exact twL5b1
attribute [local go_sem] undef in
set_option maxRecDepth 100000 in
theorem toWord_21_far (hi lo : Int) (c : (hi != 0) = true) (w : World) :
  Calls Tryz.prog 273 #[.agg #[.int .u32 0, .int .u32 4294967295], .int .i64 1, .agg #[.int .u64 hi, .int .u64 lo]] w fun e w' => e = .returned (.tuple #[.int .u64 0, .bool false]) ∧ Gr w w' := by
 exact twL5b7
attribute [local go_sem] undef in
set_option maxRecDepth 100000 in
theorem toWord_21_big (hi lo : Int) (c : hi = 0) (c2 : decide (0 < lo) = true) (w : World) :
  Calls Tryz.prog 273 #[.agg #[.int .u32 0, .int .u32 4294967295], .int .i64 1, .agg #[.int .u64 hi, .int .u64 lo]] w fun e w' => e = .returned (.tuple #[.int .u64 0, .bool false]) ∧ Gr w w' := by
 subst c
 exact twL5b7
attribute [local go_sem] undef in
set_option maxRecDepth 100000 in
theorem toWord_21_ok (hi lo r : Int) (c : hi = 0) (c2 : decide (0 < lo) = false) (hr : IntKind.u64.wrap (-lo) = r) (w : World) :
  Calls Tryz.prog 273 #[.agg #[.int .u32 0, .int .u32 4294967295], .int .i64 1, .agg #[.int .u64 hi, .int .u64 lo]] w fun e w' => e = .returned (.tuple #[.int .u64 r, .bool true]) ∧ Gr w w' := by
 subst c
 have HE : KW 269 #[.int .i64 1, .int .u64 0] (.int .u64 0) := fun w => turnedIf_1 _ _ (by decide +kernel) w
 have HL : KW 269 #[.int .i64 1, .int .u64 lo] (.int .u64 r) := fun w => turnedIf_1 _ _ hr w
 go_enter Tryz.func273, Tryz.ntmps273
 exact twL5b1
attribute [local go_sem] undef in
set_option maxRecDepth 100000 in
theorem toWord_30_far (hi lo : Int) (c : (hi != 0) = true) (w : World) :
  Calls Tryz.prog 275 #[.agg #[.int .u64 0, .int .u64 18446744073709551615], .int .i64 0, .agg #[.int .u64 hi, .int .u64 lo]] w fun e w' => e = .returned (.tuple #[.int .u64 18446744073709551615, .bool false]) ∧ Gr w w' := by
 exact twL5b5
attribute [local go_sem] undef in
set_option maxRecDepth 100000 in
theorem toWord_30_big (hi lo : Int) (c : hi = 0) (c2 : decide (18446744073709551615 < lo) = true) (w : World) :
  Calls Tryz.prog 275 #[.agg #[.int .u64 0, .int .u64 18446744073709551615], .int .i64 0, .agg #[.int .u64 hi, .int .u64 lo]] w fun e w' => e = .returned (.tuple #[.int .u64 18446744073709551615, .bool false]) ∧ Gr w w' := by
 subst c
 exact twL5b5
attribute [local go_sem] undef in
set_option maxRecDepth 100000 in
theorem toWord_30_ok (hi lo : Int) (c : hi = 0) (c2 : decide (18446744073709551615 < lo) = false) (w : World) :
  Calls Tryz.prog 275 #[.agg #[.int .u64 0, .int .u64 18446744073709551615], .int .i64 0, .agg #[.int .u64 hi, .int .u64 lo]] w fun e w' => e = .returned (.tuple #[.int .u64 lo, .bool true]) ∧ Gr w w' := by
 subst c
 have HE : KW 269 #[.int .i64 0, .int .u64 18446744073709551615] (.int .u64 18446744073709551615) := fun w => turnedIf_0 _ w
 have HL : KW 269 #[.int .i64 0, .int .u64 lo] (.int .u64 lo) := fun w => turnedIf_0 _ w
 go_enter Tryz.func275, Tryz.ntmps275
 exact twL5b1
attribute [local go_sem] undef in
set_option maxRecDepth 100000 in
theorem toWord_31_far (hi lo : Int) (c : (hi != 0) = true) (w : World) :
  Calls Tryz.prog 275 #[.agg #[.int .u64 0, .int .u64 18446744073709551615], .int .i64 1, .agg #[.int .u64 hi, .int .u64 lo]] w fun e w' => e = .returned (.tuple #[.int .u64 0, .bool false]) ∧ Gr w w' := by
 exact twL5b8
attribute [local go_sem] undef in
set_option maxRecDepth 100000 in
theorem toWord_31_big (hi lo : Int) (c : hi = 0) (c2 : decide (0 < lo) = true) (w : World) :
  Calls Tryz.prog 275 #[.agg #[.int .u64 0, .int .u64 18446744073709551615], .int .i64 1, .agg #[.int .u64 hi, .int .u64 lo]] w fun e w' => e = .returned (.tuple #[.int .u64 0, .bool false]) ∧ Gr w w' := by
 subst c
 exact twL5b8
attribute [local go_sem] undef in
set_option maxRecDepth 100000 in
theorem toWord_31_ok (hi lo r : Int) (c : hi = 0) (c2 : decide (0 < lo) = false) (hr : IntKind.u64.wrap (-lo) = r) (w : World) :
  Calls Tryz.prog 275 #[.agg #[.int .u64 0, .int .u64 18446744073709551615], .int .i64 1, .agg #[.int .u64 hi, .int .u64 lo]] w fun e w' => e = .returned (.tuple #[.int .u64 r, .bool true]) ∧ Gr w w' := by
 subst c
 have HE : KW 269 #[.int .i64 1, .int .u64 0] (.int .u64 0) := fun w => turnedIf_1 _ _ (by decide +kernel) w
 have HL : KW 269 #[.int .i64 1, .int .u64 lo] (.int .u64 r) := fun w => turnedIf_1 _ _ hr w
 go_enter Tryz.func275, Tryz.ntmps275
 exact twL5b1
end Go.Proofs.YtnbbfeknbfohhaaGreatDoor
namespace Go.Proofs.YtnbbfeknbfohhaaGreatDoor
open Go.RowKit
theorem twL5b2 {P : Prop} (h : P := by
 refine bodyPost_ret (v := .agg #[.int .u64 z, .int .i64 fl]) (by simp [results, Tryz.results97, go_sem, br0, br1]) rfl ⟨z, fl, hq, rfl, ?_⟩
 exact Gr.g) : P := h
set_option maxRecDepth 1000000 in
theorem from_no1 (p mn mx md nan f mode kind a : Int) (kv : Value) (kB : Bool) {w : World} (HS : Hid (∀ w', Gr w w' → Calls Tryz.prog 70 #[.int .i64 f, .int .i64 mode] w' fun x w'' => x = .returned (.tuple #[.agg #[.int .i64 p, .int .i64 mn, .int .i64 mx, .int .i64 md, Value.nilFunc], .bool false]) ∧ Gr w' w'')) (HK : KR 71 #[.int .i64 kind] (.tuple #[kv, .bool kB])) (HN : KR 176 #[.agg #[.int .i64 p, .int .i64 mn, .int .i64 mx]] (.agg #[.int .u64 nan, .int .i64 1])) :
  Calls Tryz.prog 97 #[.int .i64 f, .int .i64 mode, .int .i64 kind, .int .u64 a] w fun e w' => e = .returned (.agg #[.int .u64 nan, .int .i64 1]) ∧ Gr w w' := by
 go_enter Tryz.func97, Tryz.ntmps97
 go_wp2_with (first
  | (go_at_call 70; refine (HS.out _ Gr.g).mono ?_; rintro x w1 ⟨rfl, hg_w1⟩; obtain ⟨kr0, krz0, kr1, krz1⟩ := hg_w1.y2 w.heap.size 0 1 (.int .u64 0) (.int .i64 0); have hz1 := cell_size kr0)
  | (go_at_call 71; refine (HK.out _).mono ?_; rintro x w2 ⟨rfl, hg_w2⟩; obtain ⟨lr0, lrz0, lr1, lrz1⟩ := hg_w2.y2 w.heap.size 0 1 (.int .u64 0) (.int .i64 0); obtain ⟨ls0, ls1, ls2, ls3, ls4⟩ := hg_w2.e5 w1.heap.size 0 1 2 3 4 (.int .i64 p) (.int .i64 mn) (.int .i64 mx) (.int .i64 md) (Value.nilFunc); have hz2 := cell_size lr0)
  | (go_at_call 176; refine (HN.out _).mono ?_; rintro x w4 ⟨rfl, hg_w4⟩; obtain ⟨br0, brz0, br1, brz1⟩ := hg_w4.y2 w.heap.size 0 1 (.int .u64 0) (.int .i64 0)))
 refine bodyPost_ret (v := .agg #[.int .u64 nan, .int .i64 1]) (by simp [results, Tryz.results97, go_sem, br0, br1]) rfl ⟨rfl, ?_⟩
 exact Gr.g
set_option maxRecDepth 1000000 in
theorem from_no2 (p mn mx md nan f mode kind a : Int) (k : Nat) {w : World} (HS : Hid (∀ w', Gr w w' → Calls Tryz.prog 70 #[.int .i64 f, .int .i64 mode] w' fun x w'' => x = .returned (.tuple #[.agg #[.int .i64 p, .int .i64 mn, .int .i64 mx, .int .i64 md, .func (.func k) #[] #[]], .bool true]) ∧ Gr w' w'')) (HK : KR 71 #[.int .i64 kind] (.tuple #[Value.nilIface, .bool false])) (HN : KR 176 #[.agg #[.int .i64 p, .int .i64 mn, .int .i64 mx]] (.agg #[.int .u64 nan, .int .i64 1])) :
  Calls Tryz.prog 97 #[.int .i64 f, .int .i64 mode, .int .i64 kind, .int .u64 a] w fun e w' => e = .returned (.agg #[.int .u64 nan, .int .i64 1]) ∧ Gr w w' := by
 go_enter Tryz.func97, Tryz.ntmps97
 go_wp2_with (first
  | (go_at_call 70; refine (HS.out _ Gr.g).mono ?_; rintro x w1 ⟨rfl, hg_w1⟩; obtain ⟨kr0, krz0, kr1, krz1⟩ := hg_w1.y2 w.heap.size 0 1 (.int .u64 0) (.int .i64 0); have hz1 := cell_size kr0)
  | (go_at_call 71; refine (HK.out _).mono ?_; rintro x w2 ⟨rfl, hg_w2⟩; obtain ⟨lr0, lrz0, lr1, lrz1⟩ := hg_w2.y2 w.heap.size 0 1 (.int .u64 0) (.int .i64 0); obtain ⟨ls0, ls1, ls2, ls3, ls4⟩ := hg_w2.e5 w1.heap.size 0 1 2 3 4 (.int .i64 p) (.int .i64 mn) (.int .i64 mx) (.int .i64 md) (.func (.func k) #[] #[]); have hz2 := cell_size lr0)
  | (go_at_call 176; refine (HN.out _).mono ?_; rintro x w4 ⟨rfl, hg_w4⟩; obtain ⟨br0, brz0, br1, brz1⟩ := hg_w4.y2 w.heap.size 0 1 (.int .u64 0) (.int .i64 0)))
 refine bodyPost_ret (v := .agg #[.int .u64 nan, .int .i64 1]) (by simp [results, Tryz.results97, go_sem, br0, br1]) rfl ⟨rfl, ?_⟩
 exact Gr.g
set_option maxRecDepth 1000000 in
theorem from_bad0 (p mn mx md nan f mode kind a s m : Int) (k : Nat) {w : World} (HS : Hid (∀ w', Gr w w' → Calls Tryz.prog 70 #[.int .i64 f, .int .i64 mode] w' fun x w'' => x = .returned (.tuple #[.agg #[.int .i64 p, .int .i64 mn, .int .i64 mx, .int .i64 md, .func (.func k) #[] #[]], .bool true]) ∧ Gr w' w'')) (HK : KR 71 #[.int .i64 kind] (.tuple #[.iface 176 (.agg #[.int .i32 (-2147483648), .int .i32 2147483647]), .bool true])) (HW : KR 267 #[.agg #[.int .i32 (-2147483648), .int .i32 2147483647], .int .u64 a] (.tuple #[.int .i64 s, .int .u64 m, .bool false])) (HN : KR 176 #[.agg #[.int .i64 p, .int .i64 mn, .int .i64 mx]] (.agg #[.int .u64 nan, .int .i64 1])) :
  Calls Tryz.prog 97 #[.int .i64 f, .int .i64 mode, .int .i64 kind, .int .u64 a] w fun e w' => e = .returned (.agg #[.int .u64 nan, .int .i64 1]) ∧ Gr w w' := by
 go_enter Tryz.func97, Tryz.ntmps97
 go_wp2_with (first
  | (go_at_call 70; refine (HS.out _ Gr.g).mono ?_; rintro x w1 ⟨rfl, hg_w1⟩; obtain ⟨kr0, krz0, kr1, krz1⟩ := hg_w1.y2 w.heap.size 0 1 (.int .u64 0) (.int .i64 0); have hz1 := cell_size kr0)
  | (go_at_call 71; refine (HK.out _).mono ?_; rintro x w2 ⟨rfl, hg_w2⟩; obtain ⟨lr0, lrz0, lr1, lrz1⟩ := hg_w2.y2 w.heap.size 0 1 (.int .u64 0) (.int .i64 0); obtain ⟨ls0, ls1, ls2, ls3, ls4⟩ := hg_w2.e5 w1.heap.size 0 1 2 3 4 (.int .i64 p) (.int .i64 mn) (.int .i64 mx) (.int .i64 md) (.func (.func k) #[] #[]); have hz2 := cell_size lr0)
  | (go_at_call 267; refine (HW.out _).mono ?_; rintro x w3 ⟨rfl, hg_w3⟩; obtain ⟨nr0, nrz0, nr1, nrz1⟩ := hg_w3.y2 w.heap.size 0 1 (.int .u64 0) (.int .i64 0); obtain ⟨ns0, ns1, ns2, ns3, ns4⟩ := hg_w3.e5 w1.heap.size 0 1 2 3 4 (.int .i64 p) (.int .i64 mn) (.int .i64 mx) (.int .i64 md) (.func (.func k) #[] #[]))
  | (go_at_call 176; refine (HN.out _).mono ?_; rintro x w4 ⟨rfl, hg_w4⟩; obtain ⟨br0, brz0, br1, brz1⟩ := hg_w4.y2 w.heap.size 0 1 (.int .u64 0) (.int .i64 0)))
 refine bodyPost_ret (v := .agg #[.int .u64 nan, .int .i64 1]) (by simp [results, Tryz.results97, go_sem, br0, br1]) rfl ⟨rfl, ?_⟩
 exact Gr.g
set_option maxRecDepth 1000000 in
theorem from_ok0 (p mn mx md f mode kind a s m : Int) (k : Nat) {w : World} (HS : Hid (∀ w', Gr w w' → Calls Tryz.prog 70 #[.int .i64 f, .int .i64 mode] w' fun x w'' => x = .returned (.tuple #[.agg #[.int .i64 p, .int .i64 mn, .int .i64 mx, .int .i64 md, .func (.func k) #[] #[]], .bool true]) ∧ Gr w' w'')) (HK : KR 71 #[.int .i64 kind] (.tuple #[.iface 176 (.agg #[.int .i32 (-2147483648), .int .i32 2147483647]), .bool true])) (HW : KR 267 #[.agg #[.int .i32 (-2147483648), .int .i32 2147483647], .int .u64 a] (.tuple #[.int .i64 s, .int .u64 m, .bool true])) (Q : Int → Int → Prop) (HR : Hid (∀ w, Calls Tryz.prog 186 #[.agg #[.int .i64 p, .int .i64 mn, .int .i64 mx, .int .i64 md, .func (.func k) #[] #[]], .int .i64 s, .int .i64 0, .agg #[.int .u64 0, .int .u64 m], .bool false] w fun e w' => ∃ z fl, Q z fl ∧ e = .returned (.agg #[.int .u64 z, .int .i64 fl]) ∧ Gr w w')) :
  Calls Tryz.prog 97 #[.int .i64 f, .int .i64 mode, .int .i64 kind, .int .u64 a] w fun e w' => ∃ z fl, Q z fl ∧ e = .returned (.agg #[.int .u64 z, .int .i64 fl]) ∧ Gr w w' := by
 go_enter Tryz.func97, Tryz.ntmps97
 go_wp2_with (first
  | (go_at_call 70; refine (HS.out _ Gr.g).mono ?_; rintro x w1 ⟨rfl, hg_w1⟩; obtain ⟨kr0, krz0, kr1, krz1⟩ := hg_w1.y2 w.heap.size 0 1 (.int .u64 0) (.int .i64 0); have hz1 := cell_size kr0)
  | (go_at_call 71; refine (HK.out _).mono ?_; rintro x w2 ⟨rfl, hg_w2⟩; obtain ⟨lr0, lrz0, lr1, lrz1⟩ := hg_w2.y2 w.heap.size 0 1 (.int .u64 0) (.int .i64 0); obtain ⟨ls0, ls1, ls2, ls3, ls4⟩ := hg_w2.e5 w1.heap.size 0 1 2 3 4 (.int .i64 p) (.int .i64 mn) (.int .i64 mx) (.int .i64 md) (.func (.func k) #[] #[]); have hz2 := cell_size lr0)
  | (go_at_call 267; refine (HW.out _).mono ?_; rintro x w3 ⟨rfl, hg_w3⟩; obtain ⟨nr0, nrz0, nr1, nrz1⟩ := hg_w3.y2 w.heap.size 0 1 (.int .u64 0) (.int .i64 0); obtain ⟨ns0, ns1, ns2, ns3, ns4⟩ := hg_w3.e5 w1.heap.size 0 1 2 3 4 (.int .i64 p) (.int .i64 mn) (.int .i64 mx) (.int .i64 md) (.func (.func k) #[] #[]))
  | (go_at_call 186; refine (HR.out _).mono ?_; rintro x w4 ⟨z, fl, hq, rfl, hg_w4⟩; obtain ⟨br0, brz0, br1, brz1⟩ := hg_w4.y2 w.heap.size 0 1 (.int .u64 0) (.int .i64 0)))
 exact twL5b2
set_option maxRecDepth 1000000 in
theorem from_bad1 (p mn mx md nan f mode kind a s m : Int) (k : Nat) {w : World} (HS : Hid (∀ w', Gr w w' → Calls Tryz.prog 70 #[.int .i64 f, .int .i64 mode] w' fun x w'' => x = .returned (.tuple #[.agg #[.int .i64 p, .int .i64 mn, .int .i64 mx, .int .i64 md, .func (.func k) #[] #[]], .bool true]) ∧ Gr w' w'')) (HK : KR 71 #[.int .i64 kind] (.tuple #[.iface 178 (.agg #[.int .i64 (-9223372036854775808), .int .i64 9223372036854775807]), .bool true])) (HW : KR 270 #[.agg #[.int .i64 (-9223372036854775808), .int .i64 9223372036854775807], .int .u64 a] (.tuple #[.int .i64 s, .int .u64 m, .bool false])) (HN : KR 176 #[.agg #[.int .i64 p, .int .i64 mn, .int .i64 mx]] (.agg #[.int .u64 nan, .int .i64 1])) :
  Calls Tryz.prog 97 #[.int .i64 f, .int .i64 mode, .int .i64 kind, .int .u64 a] w fun e w' => e = .returned (.agg #[.int .u64 nan, .int .i64 1]) ∧ Gr w w' := by
 go_enter Tryz.func97, Tryz.ntmps97
 go_wp2_with (first
  | (go_at_call 70; refine (HS.out _ Gr.g).mono ?_; rintro x w1 ⟨rfl, hg_w1⟩; obtain ⟨kr0, krz0, kr1, krz1⟩ := hg_w1.y2 w.heap.size 0 1 (.int .u64 0) (.int .i64 0); have hz1 := cell_size kr0)
  | (go_at_call 71; refine (HK.out _).mono ?_; rintro x w2 ⟨rfl, hg_w2⟩; obtain ⟨lr0, lrz0, lr1, lrz1⟩ := hg_w2.y2 w.heap.size 0 1 (.int .u64 0) (.int .i64 0); obtain ⟨ls0, ls1, ls2, ls3, ls4⟩ := hg_w2.e5 w1.heap.size 0 1 2 3 4 (.int .i64 p) (.int .i64 mn) (.int .i64 mx) (.int .i64 md) (.func (.func k) #[] #[]); have hz2 := cell_size lr0)
  | (go_at_call 270; refine (HW.out _).mono ?_; rintro x w3 ⟨rfl, hg_w3⟩; obtain ⟨nr0, nrz0, nr1, nrz1⟩ := hg_w3.y2 w.heap.size 0 1 (.int .u64 0) (.int .i64 0); obtain ⟨ns0, ns1, ns2, ns3, ns4⟩ := hg_w3.e5 w1.heap.size 0 1 2 3 4 (.int .i64 p) (.int .i64 mn) (.int .i64 mx) (.int .i64 md) (.func (.func k) #[] #[]))
  | (go_at_call 176; refine (HN.out _).mono ?_; rintro x w4 ⟨rfl, hg_w4⟩; obtain ⟨br0, brz0, br1, brz1⟩ := hg_w4.y2 w.heap.size 0 1 (.int .u64 0) (.int .i64 0)))
 refine bodyPost_ret (v := .agg #[.int .u64 nan, .int .i64 1]) (by simp [results, Tryz.results97, go_sem, br0, br1]) rfl ⟨rfl, ?_⟩
 exact Gr.g
set_option maxRecDepth 1000000 in
theorem from_ok1 (p mn mx md f mode kind a s m : Int) (k : Nat) {w : World} (HS : Hid (∀ w', Gr w w' → Calls Tryz.prog 70 #[.int .i64 f, .int .i64 mode] w' fun x w'' => x = .returned (.tuple #[.agg #[.int .i64 p, .int .i64 mn, .int .i64 mx, .int .i64 md, .func (.func k) #[] #[]], .bool true]) ∧ Gr w' w'')) (HK : KR 71 #[.int .i64 kind] (.tuple #[.iface 178 (.agg #[.int .i64 (-9223372036854775808), .int .i64 9223372036854775807]), .bool true])) (HW : KR 270 #[.agg #[.int .i64 (-9223372036854775808), .int .i64 9223372036854775807], .int .u64 a] (.tuple #[.int .i64 s, .int .u64 m, .bool true])) (Q : Int → Int → Prop) (HR : Hid (∀ w, Calls Tryz.prog 186 #[.agg #[.int .i64 p, .int .i64 mn, .int .i64 mx, .int .i64 md, .func (.func k) #[] #[]], .int .i64 s, .int .i64 0, .agg #[.int .u64 0, .int .u64 m], .bool false] w fun e w' => ∃ z fl, Q z fl ∧ e = .returned (.agg #[.int .u64 z, .int .i64 fl]) ∧ Gr w w')) :
  Calls Tryz.prog 97 #[.int .i64 f, .int .i64 mode, .int .i64 kind, .int .u64 a] w fun e w' => ∃ z fl, Q z fl ∧ e = .returned (.agg #[.int .u64 z, .int .i64 fl]) ∧ Gr w w' := by
 go_enter Tryz.func97, Tryz.ntmps97
 go_wp2_with (first
  | (go_at_call 70; refine (HS.out _ Gr.g).mono ?_; rintro x w1 ⟨rfl, hg_w1⟩; obtain ⟨kr0, krz0, kr1, krz1⟩ := hg_w1.y2 w.heap.size 0 1 (.int .u64 0) (.int .i64 0); have hz1 := cell_size kr0)
  | (go_at_call 71; refine (HK.out _).mono ?_; rintro x w2 ⟨rfl, hg_w2⟩; obtain ⟨lr0, lrz0, lr1, lrz1⟩ := hg_w2.y2 w.heap.size 0 1 (.int .u64 0) (.int .i64 0); obtain ⟨ls0, ls1, ls2, ls3, ls4⟩ := hg_w2.e5 w1.heap.size 0 1 2 3 4 (.int .i64 p) (.int .i64 mn) (.int .i64 mx) (.int .i64 md) (.func (.func k) #[] #[]); have hz2 := cell_size lr0)
  | (go_at_call 270; refine (HW.out _).mono ?_; rintro x w3 ⟨rfl, hg_w3⟩; obtain ⟨nr0, nrz0, nr1, nrz1⟩ := hg_w3.y2 w.heap.size 0 1 (.int .u64 0) (.int .i64 0); obtain ⟨ns0, ns1, ns2, ns3, ns4⟩ := hg_w3.e5 w1.heap.size 0 1 2 3 4 (.int .i64 p) (.int .i64 mn) (.int .i64 mx) (.int .i64 md) (.func (.func k) #[] #[]))
  | (go_at_call 186; refine (HR.out _).mono ?_; rintro x w4 ⟨z, fl, hq, rfl, hg_w4⟩; obtain ⟨br0, brz0, br1, brz1⟩ := hg_w4.y2 w.heap.size 0 1 (.int .u64 0) (.int .i64 0)))
 exact twL5b2
set_option maxRecDepth 1000000 in
theorem from_bad2 (p mn mx md nan f mode kind a s m : Int) (k : Nat) {w : World} (HS : Hid (∀ w', Gr w w' → Calls Tryz.prog 70 #[.int .i64 f, .int .i64 mode] w' fun x w'' => x = .returned (.tuple #[.agg #[.int .i64 p, .int .i64 mn, .int .i64 mx, .int .i64 md, .func (.func k) #[] #[]], .bool true]) ∧ Gr w' w'')) (HK : KR 71 #[.int .i64 kind] (.tuple #[.iface 181 (.agg #[.int .u32 0, .int .u32 4294967295]), .bool true])) (HW : KR 272 #[.agg #[.int .u32 0, .int .u32 4294967295], .int .u64 a] (.tuple #[.int .i64 s, .int .u64 m, .bool false])) (HN : KR 176 #[.agg #[.int .i64 p, .int .i64 mn, .int .i64 mx]] (.agg #[.int .u64 nan, .int .i64 1])) :
  Calls Tryz.prog 97 #[.int .i64 f, .int .i64 mode, .int .i64 kind, .int .u64 a] w fun e w' => e = .returned (.agg #[.int .u64 nan, .int .i64 1]) ∧ Gr w w' := by
 go_enter Tryz.func97, Tryz.ntmps97
 go_wp2_with (first
  | (go_at_call 70; refine (HS.out _ Gr.g).mono ?_; rintro x w1 ⟨rfl, hg_w1⟩; obtain ⟨kr0, krz0, kr1, krz1⟩ := hg_w1.y2 w.heap.size 0 1 (.int .u64 0) (.int .i64 0); have hz1 := cell_size kr0)
  | (go_at_call 71; refine (HK.out _).mono ?_; rintro x w2 ⟨rfl, hg_w2⟩; obtain ⟨lr0, lrz0, lr1, lrz1⟩ := hg_w2.y2 w.heap.size 0 1 (.int .u64 0) (.int .i64 0); obtain ⟨ls0, ls1, ls2, ls3, ls4⟩ := hg_w2.e5 w1.heap.size 0 1 2 3 4 (.int .i64 p) (.int .i64 mn) (.int .i64 mx) (.int .i64 md) (.func (.func k) #[] #[]); have hz2 := cell_size lr0)
  | (go_at_call 272; refine (HW.out _).mono ?_; rintro x w3 ⟨rfl, hg_w3⟩; obtain ⟨nr0, nrz0, nr1, nrz1⟩ := hg_w3.y2 w.heap.size 0 1 (.int .u64 0) (.int .i64 0); obtain ⟨ns0, ns1, ns2, ns3, ns4⟩ := hg_w3.e5 w1.heap.size 0 1 2 3 4 (.int .i64 p) (.int .i64 mn) (.int .i64 mx) (.int .i64 md) (.func (.func k) #[] #[]))
  | (go_at_call 176; refine (HN.out _).mono ?_; rintro x w4 ⟨rfl, hg_w4⟩; obtain ⟨br0, brz0, br1, brz1⟩ := hg_w4.y2 w.heap.size 0 1 (.int .u64 0) (.int .i64 0)))
 refine bodyPost_ret (v := .agg #[.int .u64 nan, .int .i64 1]) (by simp [results, Tryz.results97, go_sem, br0, br1]) rfl ⟨rfl, ?_⟩
 exact Gr.g
set_option maxRecDepth 1000000 in
theorem from_ok2 (p mn mx md f mode kind a s m : Int) (k : Nat) {w : World} (HS : Hid (∀ w', Gr w w' → Calls Tryz.prog 70 #[.int .i64 f, .int .i64 mode] w' fun x w'' => x = .returned (.tuple #[.agg #[.int .i64 p, .int .i64 mn, .int .i64 mx, .int .i64 md, .func (.func k) #[] #[]], .bool true]) ∧ Gr w' w'')) (HK : KR 71 #[.int .i64 kind] (.tuple #[.iface 181 (.agg #[.int .u32 0, .int .u32 4294967295]), .bool true])) (HW : KR 272 #[.agg #[.int .u32 0, .int .u32 4294967295], .int .u64 a] (.tuple #[.int .i64 s, .int .u64 m, .bool true])) (Q : Int → Int → Prop) (HR : Hid (∀ w, Calls Tryz.prog 186 #[.agg #[.int .i64 p, .int .i64 mn, .int .i64 mx, .int .i64 md, .func (.func k) #[] #[]], .int .i64 s, .int .i64 0, .agg #[.int .u64 0, .int .u64 m], .bool false] w fun e w' => ∃ z fl, Q z fl ∧ e = .returned (.agg #[.int .u64 z, .int .i64 fl]) ∧ Gr w w')) :
  Calls Tryz.prog 97 #[.int .i64 f, .int .i64 mode, .int .i64 kind, .int .u64 a] w fun e w' => ∃ z fl, Q z fl ∧ e = .returned (.agg #[.int .u64 z, .int .i64 fl]) ∧ Gr w w' := by
 go_enter Tryz.func97, Tryz.ntmps97
 go_wp2_with (first
  | (go_at_call 70; refine (HS.out _ Gr.g).mono ?_; rintro x w1 ⟨rfl, hg_w1⟩; obtain ⟨kr0, krz0, kr1, krz1⟩ := hg_w1.y2 w.heap.size 0 1 (.int .u64 0) (.int .i64 0); have hz1 := cell_size kr0)
  | (go_at_call 71; refine (HK.out _).mono ?_; rintro x w2 ⟨rfl, hg_w2⟩; obtain ⟨lr0, lrz0, lr1, lrz1⟩ := hg_w2.y2 w.heap.size 0 1 (.int .u64 0) (.int .i64 0); obtain ⟨ls0, ls1, ls2, ls3, ls4⟩ := hg_w2.e5 w1.heap.size 0 1 2 3 4 (.int .i64 p) (.int .i64 mn) (.int .i64 mx) (.int .i64 md) (.func (.func k) #[] #[]); have hz2 := cell_size lr0)
  | (go_at_call 272; refine (HW.out _).mono ?_; rintro x w3 ⟨rfl, hg_w3⟩; obtain ⟨nr0, nrz0, nr1, nrz1⟩ := hg_w3.y2 w.heap.size 0 1 (.int .u64 0) (.int .i64 0); obtain ⟨ns0, ns1, ns2, ns3, ns4⟩ := hg_w3.e5 w1.heap.size 0 1 2 3 4 (.int .i64 p) (.int .i64 mn) (.int .i64 mx) (.int .i64 md) (.func (.func k) #[] #[]))
  | (go_at_call 186; refine (HR.out _).mono ?_; rintro x w4 ⟨z, fl, hq, rfl, hg_w4⟩; obtain ⟨br0, brz0, br1, brz1⟩ := hg_w4.y2 w.heap.size 0 1 (.int .u64 0) (.int .i64 0)))
 exact twL5b2
set_option maxRecDepth 1000000 in
theorem from_bad3 (p mn mx md nan f mode kind a s m : Int) (k : Nat) {w : World} (HS : Hid (∀ w', Gr w w' → Calls Tryz.prog 70 #[.int .i64 f, .int .i64 mode] w' fun x w'' => x = .returned (.tuple #[.agg #[.int .i64 p, .int .i64 mn, .int .i64 mx, .int .i64 md, .func (.func k) #[] #[]], .bool true]) ∧ Gr w' w'')) (HK : KR 71 #[.int .i64 kind] (.tuple #[.iface 183 (.agg #[.int .u64 0, .int .u64 18446744073709551615]), .bool true])) (HW : KR 274 #[.agg #[.int .u64 0, .int .u64 18446744073709551615], .int .u64 a] (.tuple #[.int .i64 s, .int .u64 m, .bool false])) (HN : KR 176 #[.agg #[.int .i64 p, .int .i64 mn, .int .i64 mx]] (.agg #[.int .u64 nan, .int .i64 1])) :
  Calls Tryz.prog 97 #[.int .i64 f, .int .i64 mode, .int .i64 kind, .int .u64 a] w fun e w' => e = .returned (.agg #[.int .u64 nan, .int .i64 1]) ∧ Gr w w' := by
 go_enter Tryz.func97, Tryz.ntmps97
 go_wp2_with (first
  | (go_at_call 70; refine (HS.out _ Gr.g).mono ?_; rintro x w1 ⟨rfl, hg_w1⟩; obtain ⟨kr0, krz0, kr1, krz1⟩ := hg_w1.y2 w.heap.size 0 1 (.int .u64 0) (.int .i64 0); have hz1 := cell_size kr0)
  | (go_at_call 71; refine (HK.out _).mono ?_; rintro x w2 ⟨rfl, hg_w2⟩; obtain ⟨lr0, lrz0, lr1, lrz1⟩ := hg_w2.y2 w.heap.size 0 1 (.int .u64 0) (.int .i64 0); obtain ⟨ls0, ls1, ls2, ls3, ls4⟩ := hg_w2.e5 w1.heap.size 0 1 2 3 4 (.int .i64 p) (.int .i64 mn) (.int .i64 mx) (.int .i64 md) (.func (.func k) #[] #[]); have hz2 := cell_size lr0)
  | (go_at_call 274; refine (HW.out _).mono ?_; rintro x w3 ⟨rfl, hg_w3⟩; obtain ⟨nr0, nrz0, nr1, nrz1⟩ := hg_w3.y2 w.heap.size 0 1 (.int .u64 0) (.int .i64 0); obtain ⟨ns0, ns1, ns2, ns3, ns4⟩ := hg_w3.e5 w1.heap.size 0 1 2 3 4 (.int .i64 p) (.int .i64 mn) (.int .i64 mx) (.int .i64 md) (.func (.func k) #[] #[]))
  | (go_at_call 176; refine (HN.out _).mono ?_; rintro x w4 ⟨rfl, hg_w4⟩; obtain ⟨br0, brz0, br1, brz1⟩ := hg_w4.y2 w.heap.size 0 1 (.int .u64 0) (.int .i64 0)))
 refine bodyPost_ret (v := .agg #[.int .u64 nan, .int .i64 1]) (by simp [results, Tryz.results97, go_sem, br0, br1]) rfl ⟨rfl, ?_⟩
 exact Gr.g
set_option maxRecDepth 1000000 in
theorem from_ok3 (p mn mx md f mode kind a s m : Int) (k : Nat) {w : World} (HS : Hid (∀ w', Gr w w' → Calls Tryz.prog 70 #[.int .i64 f, .int .i64 mode] w' fun x w'' => x = .returned (.tuple #[.agg #[.int .i64 p, .int .i64 mn, .int .i64 mx, .int .i64 md, .func (.func k) #[] #[]], .bool true]) ∧ Gr w' w'')) (HK : KR 71 #[.int .i64 kind] (.tuple #[.iface 183 (.agg #[.int .u64 0, .int .u64 18446744073709551615]), .bool true])) (HW : KR 274 #[.agg #[.int .u64 0, .int .u64 18446744073709551615], .int .u64 a] (.tuple #[.int .i64 s, .int .u64 m, .bool true])) (Q : Int → Int → Prop) (HR : Hid (∀ w, Calls Tryz.prog 186 #[.agg #[.int .i64 p, .int .i64 mn, .int .i64 mx, .int .i64 md, .func (.func k) #[] #[]], .int .i64 s, .int .i64 0, .agg #[.int .u64 0, .int .u64 m], .bool false] w fun e w' => ∃ z fl, Q z fl ∧ e = .returned (.agg #[.int .u64 z, .int .i64 fl]) ∧ Gr w w')) :
  Calls Tryz.prog 97 #[.int .i64 f, .int .i64 mode, .int .i64 kind, .int .u64 a] w fun e w' => ∃ z fl, Q z fl ∧ e = .returned (.agg #[.int .u64 z, .int .i64 fl]) ∧ Gr w w' := by
 go_enter Tryz.func97, Tryz.ntmps97
 go_wp2_with (first
  | (go_at_call 70; refine (HS.out _ Gr.g).mono ?_; rintro x w1 ⟨rfl, hg_w1⟩; obtain ⟨kr0, krz0, kr1, krz1⟩ := hg_w1.y2 w.heap.size 0 1 (.int .u64 0) (.int .i64 0); have hz1 := cell_size kr0)
  | (go_at_call 71; refine (HK.out _).mono ?_; rintro x w2 ⟨rfl, hg_w2⟩; obtain ⟨lr0, lrz0, lr1, lrz1⟩ := hg_w2.y2 w.heap.size 0 1 (.int .u64 0) (.int .i64 0); obtain ⟨ls0, ls1, ls2, ls3, ls4⟩ := hg_w2.e5 w1.heap.size 0 1 2 3 4 (.int .i64 p) (.int .i64 mn) (.int .i64 mx) (.int .i64 md) (.func (.func k) #[] #[]); have hz2 := cell_size lr0)
  | (go_at_call 274; refine (HW.out _).mono ?_; rintro x w3 ⟨rfl, hg_w3⟩; obtain ⟨nr0, nrz0, nr1, nrz1⟩ := hg_w3.y2 w.heap.size 0 1 (.int .u64 0) (.int .i64 0); obtain ⟨ns0, ns1, ns2, ns3, ns4⟩ := hg_w3.e5 w1.heap.size 0 1 2 3 4 (.int .i64 p) (.int .i64 mn) (.int .i64 mx) (.int .i64 md) (.func (.func k) #[] #[]))
  | (go_at_call 186; refine (HR.out _).mono ?_; rintro x w4 ⟨z, fl, hq, rfl, hg_w4⟩; obtain ⟨br0, brz0, br1, brz1⟩ := hg_w4.y2 w.heap.size 0 1 (.int .u64 0) (.int .i64 0)))
 exact twL5b2
end Go.Proofs.YtnbbfeknbfohhaaGreatDoor
