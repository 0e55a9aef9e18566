import Derived.Test.YtnbbfeknbfohhaaGreatDoorB7
import Derived.Deep.DeepCutAuto
import Derived.Test.YtnbbfeknbfohhaaGreatDoorA7
import Derived.Deep.RegionHeld3
import Derived.BigQuiet
import Derived.Deep.QuietTactic
import Derived.Test.YtnbbfeknbfohhaaGreatDoorA2
set_option linter.unusedVariables false
set_option linter.unusedSimpArgs false
set_option maxRecDepth 1000000
set_option maxHeartbeats 40000000
namespace Go.Proofs.YtnbbfeknbfohhaaGreatDoor
open Go.RowKit
theorem combine_toWhole (p mn mx md : Int) (k : Nat) (sx ex cx xh xl sy ey cy yh yl : Int) (tx ty : Bool) (m : Int) (hm : max cx cy = m) (h3 : m < 3) (Q : Int → Int → Int → Int → Int → Bool → Int → Prop) (HO : Hid (∀ w, CT 75 #[.agg #[.int .i64 p, .int .i64 mn, .int .i64 mx, .int .i64 md, .func (.func k) #[] #[]], .agg #[.int .i64 sx, .int .i64 ex, .int .i64 cx, .int .u64 xh, .int .u64 xl, .bool tx, .int .i64 0], .agg #[.int .i64 sy, .int .i64 ey, .int .i64 cy, .int .u64 yh, .int .u64 yl, .bool ty, .int .i64 0]] w fun e w' => ∃ os oe oc oh ol ot of, Q os oe oc oh ol ot of ∧ e = .returned (.agg #[.int .i64 os, .int .i64 oe, .int .i64 oc, .int .u64 oh, .int .u64 ol, .bool ot, .int .i64 of]) ∧ Gr w w')) (w : World) :
  CT 74 #[.agg #[.int .i64 p, .int .i64 mn, .int .i64 mx, .int .i64 md, .func (.func k) #[] #[]], .func (.func 75) #[] #[], .agg #[.int .i64 sx, .int .i64 ex, .int .i64 cx, .int .u64 xh, .int .u64 xl, .bool tx, .int .i64 0], .agg #[.int .i64 sy, .int .i64 ey, .int .i64 cy, .int .u64 yh, .int .u64 yl, .bool ty, .int .i64 0]] w fun e w' => ∃ os oe oc oh ol ot of, Q os oe oc oh ol ot of ∧ e = .returned (.agg #[.int .i64 os, .int .i64 oe, .int .i64 oc, .int .u64 oh, .int .u64 ol, .bool ot, .int .i64 of]) ∧ Gr w w' := by
 go_enter Tryz.func74, Tryz.ntmps74
 go_wp2_with (go_at_call 75; refine (HO.out _).mono ?_; rintro e w1 ⟨os, oe, oc, oh, ol, ot, of, hq, rfl, hg_w1⟩; obtain ⟨ar0, arz0, ar1, arz1, ar2, arz2, ar3, arz3, ar4, arz4, ar5, arz5, ar6, arz6⟩ := hg_w1.y7 (w.heap.size + 1 + 1 + 1) 0 1 2 3 4 5 6 (.int .i64 0) (.int .i64 0) (.int .i64 0) (.int .u64 0) (.int .u64 0) (.bool false) (.int .i64 0))
 refine bodyPost_ret (v := .agg #[.int .i64 os, .int .i64 oe, .int .i64 oc, .int .u64 oh, .int .u64 ol, .bool ot, .int .i64 of]) (by simp [results, Tryz.results74, go_sem, ar0, ar1, ar2, ar3, ar4, ar5, ar6]) rfl ⟨os, oe, oc, oh, ol, ot, of, hq, rfl, ?_⟩
 exact Gr.g
end Go.Proofs.YtnbbfeknbfohhaaGreatDoor
set_option maxRecDepth 1000000
namespace Go.Proofs.YtnbbfeknbfohhaaGreatDoor
open Go.RowKit
theorem toWhole_c (p mn mx md : Int) (k : Nat) (sx ex cx xh xl sy ey cy yh yl : Int) (tx ty : Bool) (c : (cx != 1) = true) (w : World) :
  QR 75 #[.agg #[.int .i64 p, .int .i64 mn, .int .i64 mx, .int .i64 md, .func (.func k) #[] #[]], .agg #[.int .i64 sx, .int .i64 ex, .int .i64 cx, .int .u64 xh, .int .u64 xl, .bool tx, .int .i64 0], .agg #[.int .i64 sy, .int .i64 ey, .int .i64 cy, .int .u64 yh, .int .u64 yl, .bool ty, .int .i64 0]] w (.agg #[.int .i64 sx, .int .i64 ex, .int .i64 cx, .int .u64 xh, .int .u64 xl, .bool tx, .int .i64 0]) := by
 go_enter Tryz.func75, Tryz.ntmps75
 go_wp2
 go_returns
 exact ⟨rfl, Gr.g⟩
theorem toWhole_e (p mn mx md : Int) (k : Nat) (sx ex cx xh xl sy ey cy yh yl : Int) (tx ty : Bool) (c : cx = 1) (c2 : decide (0 ≤ ex) = true) (w : World) :
  QR 75 #[.agg #[.int .i64 p, .int .i64 mn, .int .i64 mx, .int .i64 md, .func (.func k) #[] #[]], .agg #[.int .i64 sx, .int .i64 ex, .int .i64 cx, .int .u64 xh, .int .u64 xl, .bool tx, .int .i64 0], .agg #[.int .i64 sy, .int .i64 ey, .int .i64 cy, .int .u64 yh, .int .u64 yl, .bool ty, .int .i64 0]] w (.agg #[.int .i64 sx, .int .i64 ex, .int .i64 1, .int .u64 xh, .int .u64 xl, .bool tx, .int .i64 0]) := by
 subst c
 go_enter Tryz.func75, Tryz.ntmps75
 go_wp2
 go_returns
 exact ⟨rfl, Gr.g⟩
theorem toWhole_x (p mn mx md : Int) (k : Nat) (sx ex cx xh xl sy ey cy yh yl : Int) (tx ty : Bool) (dr m : Int) (c : cx = 1) (c2 : decide (0 ≤ ex) = false) (hn : wrap64 (-ex) = dr) (HR : KR 161 #[.func (.func k) #[] #[], .int .i64 dr, .int .i64 sx, .agg #[.int .u64 xh, .int .u64 xl], .bool false] (.tuple #[.int .u64 m, .bool true])) (w : World) :
  QR 75 #[.agg #[.int .i64 p, .int .i64 mn, .int .i64 mx, .int .i64 md, .func (.func k) #[] #[]], .agg #[.int .i64 sx, .int .i64 ex, .int .i64 cx, .int .u64 xh, .int .u64 xl, .bool tx, .int .i64 0], .agg #[.int .i64 sy, .int .i64 ey, .int .i64 cy, .int .u64 yh, .int .u64 yl, .bool ty, .int .i64 0]] w (.agg #[.int .i64 sx, .int .i64 0, .int .i64 1, .int .u64 0, .int .u64 m, .bool tx, .int .i64 16]) := by
 subst c
 go_enter Tryz.func75, Tryz.ntmps75
 go_wp2_with (go_at_call 161; refine (HR.out _).mono ?_; rintro x w1 ⟨rfl, hg_w1⟩; obtain ⟨ax0, axz0, ax1, axz1, ax2, axz2, ax3, axz3, ax4, axz4, ax5, axz5, ax6, axz6⟩ := hg_w1.y7 (w.heap.size + 1) 0 1 2 3 4 5 6 (.int .i64 sx) (.int .i64 ex) (.int .i64 1) (.int .u64 xh) (.int .u64 xl) (.bool tx) (.int .i64 0); obtain ⟨ar0, arz0, ar1, arz1, ar2, arz2, ar3, arz3, ar4, arz4, ar5, arz5, ar6, arz6⟩ := hg_w1.y7 (w.heap.size + 1 + 1 + 1) 0 1 2 3 4 5 6 (.int .i64 0) (.int .i64 0) (.int .i64 0) (.int .u64 0) (.int .u64 0) (.bool false) (.int .i64 0); have hz1 := cell_size ar0)
 refine bodyPost_ret (v := .agg #[.int .i64 sx, .int .i64 0, .int .i64 1, .int .u64 0, .int .u64 m, .bool tx, .int .i64 16]) (by simp [results, Tryz.results75, go_sem, ar0, ar1, ar2, ar3, ar4, ar5, ar6]) rfl ⟨rfl, ?_⟩
 exact Gr.g
theorem toWhole_w (p mn mx md : Int) (k : Nat) (sx ex cx xh xl sy ey cy yh yl : Int) (tx ty : Bool) (dr m : Int) (c : cx = 1) (c2 : decide (0 ≤ ex) = false) (hn : wrap64 (-ex) = dr) (HR : KR 161 #[.func (.func k) #[] #[], .int .i64 dr, .int .i64 sx, .agg #[.int .u64 xh, .int .u64 xl], .bool false] (.tuple #[.int .u64 m, .bool false])) (w : World) :
  QR 75 #[.agg #[.int .i64 p, .int .i64 mn, .int .i64 mx, .int .i64 md, .func (.func k) #[] #[]], .agg #[.int .i64 sx, .int .i64 ex, .int .i64 cx, .int .u64 xh, .int .u64 xl, .bool tx, .int .i64 0], .agg #[.int .i64 sy, .int .i64 ey, .int .i64 cy, .int .u64 yh, .int .u64 yl, .bool ty, .int .i64 0]] w (.agg #[.int .i64 sx, .int .i64 0, .int .i64 1, .int .u64 0, .int .u64 m, .bool tx, .int .i64 0]) := by
 subst c
 go_enter Tryz.func75, Tryz.ntmps75
 go_wp2_with (go_at_call 161; refine (HR.out _).mono ?_; rintro x w1 ⟨rfl, hg_w1⟩; obtain ⟨ax0, axz0, ax1, axz1, ax2, axz2, ax3, axz3, ax4, axz4, ax5, axz5, ax6, axz6⟩ := hg_w1.y7 (w.heap.size + 1) 0 1 2 3 4 5 6 (.int .i64 sx) (.int .i64 ex) (.int .i64 1) (.int .u64 xh) (.int .u64 xl) (.bool tx) (.int .i64 0); obtain ⟨ar0, arz0, ar1, arz1, ar2, arz2, ar3, arz3, ar4, arz4, ar5, arz5, ar6, arz6⟩ := hg_w1.y7 (w.heap.size + 1 + 1 + 1) 0 1 2 3 4 5 6 (.int .i64 0) (.int .i64 0) (.int .i64 0) (.int .u64 0) (.int .u64 0) (.bool false) (.int .i64 0); have hz1 := cell_size ar0)
 refine bodyPost_ret (v := .agg #[.int .i64 sx, .int .i64 0, .int .i64 1, .int .u64 0, .int .u64 m, .bool tx, .int .i64 0]) (by simp [results, Tryz.results75, go_sem, ar0, ar1, ar2, ar3, ar4, ar5, ar6]) rfl ⟨rfl, ?_⟩
 exact Gr.g
end Go.Proofs.YtnbbfeknbfohhaaGreatDoor
set_option maxRecDepth 1000000
namespace Go.Proofs.YtnbbfeknbfohhaaGreatDoor
open Go.RowKit
theorem kindOf_1 (w : World) : QR 71 #[.int .i64 1] w (.tuple #[.iface 178 (.agg #[.int .i64 (-9223372036854775808), .int .i64 9223372036854775807]), .bool true]) := by
 go_enter Tryz.func71, Tryz.ntmps71
 go_wp2
 go_returns
 exact ⟨rfl, Gr.g⟩
theorem turnedIf_1 (v m : Int) (h : IntKind.u64.wrap (-v) = m) (w : World) : QW 269 #[.int .i64 1, .int .u64 v] w (.int .u64 m) := by
 go_enter Tryz.func269, Tryz.ntmps269
 go_wp2
 go_returns
 exact ⟨rfl, rfl⟩
theorem turnedIf_0 (v : Int) (w : World) : QW 269 #[.int .i64 0, .int .u64 v] w (.int .u64 v) := by
 go_enter Tryz.func269, Tryz.ntmps269
 go_wp2
 go_returns
 exact ⟨rfl, rfl⟩
theorem fromWord_1n (v x y m : Int) (q : Bool) (hx : IntKind.i64.wrap v = x) (c : x < 0) (hy : IntKind.u64.wrap x = y) (hq : (y == v) = q) (hm : IntKind.u64.wrap (-v) = m) (w : World) :
  QR 270 #[.agg #[.int .i64 (-9223372036854775808), .int .i64 9223372036854775807], .int .u64 v] w (.tuple #[.int .i64 1, .int .u64 m, .bool q]) := by
 have HT : KW 269 #[.int .i64 1, .int .u64 v] (.int .u64 m) := fun w => turnedIf_1 v m hm w
 go_enter Tryz.func270, Tryz.ntmps270
 go_wp2_with (go_at_call 269; refine kw (HT.out _) ?_)
 go_returns
 exact ⟨rfl, Gr.g⟩
theorem fromWord_1p (v x y : Int) (q : Bool) (hx : IntKind.i64.wrap v = x) (c : 0 ≤ x) (hy : IntKind.u64.wrap x = y) (hq : (y == v) = q) (w : World) :
  QR 270 #[.agg #[.int .i64 (-9223372036854775808), .int .i64 9223372036854775807], .int .u64 v] w (.tuple #[.int .i64 0, .int .u64 v, .bool q]) := by
 have HT : KW 269 #[.int .i64 0, .int .u64 v] (.int .u64 v) := fun w => turnedIf_0 v w
 go_enter Tryz.func270, Tryz.ntmps270
 go_wp2_with (go_at_call 269; refine kw (HT.out _) ?_)
 go_returns
 exact ⟨rfl, Gr.g⟩
end Go.Proofs.YtnbbfeknbfohhaaGreatDoor
set_option maxRecDepth 1000000
namespace Go.Proofs.YtnbbfeknbfohhaaGreatDoor
open Go.RowKit
theorem twL5b2 {P : Prop} (h : P := by
 have HE : KW 269 #[.int .i64 1, .int .u64 9223372036854775808] (.int .u64 9223372036854775808) := fun w => turnedIf_1 _ _ (by decide +kernel) w
 have u1 : IntKind.u64.wrap (-9223372036854775808) = 9223372036854775808 := by decide +kernel
 exact twL5b0) : P := h
theorem twL5b1 {P : Prop} (h : P := by
 go_enter Tryz.func271, Tryz.ntmps271
 go_wp2
 go_quiet (first | (go_at_call 269; refine Calls.quiet_of_same ((HE.out _).mono (fun e w' h => ⟨h.1, h.2.symm⟩))))
 all_goals go_wp2_with (go_at_call 269; with_reducible refine kw (HL.out _) ?_)
 all_goals go_returns
 all_goals exact ⟨rfl, gr_drewN Gr.g⟩) : P := h
theorem twL5b0 {P : Prop} (h : P := by
 go_enter Tryz.func271, Tryz.ntmps271
 go_wp2
 go_quiet (first | (go_at_call 269; refine Calls.quiet_of_same ((HE.out _).mono (fun e w' h => ⟨h.1, h.2.symm⟩))))
 all_goals go_wp2
 all_goals go_returns
 all_goals exact ⟨rfl, gr_drewN Gr.g⟩) : P := h
theorem gr_drewN {W w : World} (h : Gr W w) {n : Nat} : Gr W (w.drewN n) := by
 obtain ⟨⟨⟨a1, a2, a3⟩, b, c⟩, d⟩ := h
 exact ⟨⟨⟨a1, a2, a3⟩, b, c⟩, below_drewN d n⟩
attribute [local go_sem] undef in
theorem toWord_10_far (hi lo : Int) (c : (hi != 0) = true) (w : World) :
  QR 271 #[.agg #[.int .i64 (-9223372036854775808), .int .i64 9223372036854775807], .int .i64 0, .agg #[.int .u64 hi, .int .u64 lo]] w (.tuple #[.int .u64 9223372036854775807, .bool false]) := by
 have HE : KW 269 #[.int .i64 0, .int .u64 9223372036854775807] (.int .u64 9223372036854775807) := fun w => turnedIf_0 _ w
 exact twL5b0
attribute [local go_sem] undef in
theorem toWord_10_big (hi lo : Int) (c : hi = 0) (c2 : decide (9223372036854775807 < lo) = true) (w : World) :
  QR 271 #[.agg #[.int .i64 (-9223372036854775808), .int .i64 9223372036854775807], .int .i64 0, .agg #[.int .u64 hi, .int .u64 lo]] w (.tuple #[.int .u64 9223372036854775807, .bool false]) := by
 subst c
 have HE : KW 269 #[.int .i64 0, .int .u64 9223372036854775807] (.int .u64 9223372036854775807) := fun w => turnedIf_0 _ w
 exact twL5b0
attribute [local go_sem] undef in
theorem toWord_10_ok (hi lo : Int) (c : hi = 0) (c2 : decide (9223372036854775807 < lo) = false) (w : World) :
  QR 271 #[.agg #[.int .i64 (-9223372036854775808), .int .i64 9223372036854775807], .int .i64 0, .agg #[.int .u64 hi, .int .u64 lo]] w (.tuple #[.int .u64 lo, .bool true]) := by
 subst c
 have HE : KW 269 #[.int .i64 0, .int .u64 9223372036854775807] (.int .u64 9223372036854775807) := fun w => turnedIf_0 _ w
 have HL : KW 269 #[.int .i64 0, .int .u64 lo] (.int .u64 lo) := fun w => turnedIf_0 _ w
 exact twL5b1
attribute [local go_sem] undef in
theorem toWord_11_far (hi lo : Int) (c : (hi != 0) = true) (w : World) :
  QR 271 #[.agg #[.int .i64 (-9223372036854775808), .int .i64 9223372036854775807], .int .i64 1, .agg #[.int .u64 hi, .int .u64 lo]] w (.tuple #[.int .u64 9223372036854775808, .bool false]) := by
 exact twL5b2
attribute [local go_sem] undef in
theorem toWord_11_big (hi lo : Int) (c : hi = 0) (c2 : decide (9223372036854775808 < lo) = true) (w : World) :
  QR 271 #[.agg #[.int .i64 (-9223372036854775808), .int .i64 9223372036854775807], .int .i64 1, .agg #[.int .u64 hi, .int .u64 lo]] w (.tuple #[.int .u64 9223372036854775808, .bool false]) := by
 subst c
 exact twL5b2
attribute [local go_sem] undef in
theorem toWord_11_ok (hi lo r : Int) (c : hi = 0) (c2 : decide (9223372036854775808 < lo) = false) (hr : IntKind.u64.wrap (-lo) = r) (w : World) :
  QR 271 #[.agg #[.int .i64 (-9223372036854775808), .int .i64 9223372036854775807], .int .i64 1, .agg #[.int .u64 hi, .int .u64 lo]] w (.tuple #[.int .u64 r, .bool true]) := by
 subst c
 have HE : KW 269 #[.int .i64 1, .int .u64 9223372036854775808] (.int .u64 9223372036854775808) := fun w => turnedIf_1 _ _ (by decide +kernel) w
 have HL : KW 269 #[.int .i64 1, .int .u64 lo] (.int .u64 r) := fun w => turnedIf_1 _ _ hr w
 have u1 : IntKind.u64.wrap (-9223372036854775808) = 9223372036854775808 := by decide +kernel
 exact twL5b1
end Go.Proofs.YtnbbfeknbfohhaaGreatDoor
set_option maxRecDepth 1000000
namespace Go.Proofs.YtnbbfeknbfohhaaGreatDoor
open Go.RowKit
theorem from_bad1 (p mn mx md nan f mode kind a s m : Int) (k : Nat) {w : World} (HS : Hid (∀ w', Gr w w' → QR 70 #[.int .i64 f, .int .i64 mode] w' (.tuple #[.agg #[.int .i64 p, .int .i64 mn, .int .i64 mx, .int .i64 md, .func (.func k) #[] #[]], .bool true]))) (HK : KR 71 #[.int .i64 kind] (.tuple #[.iface 178 (.agg #[.int .i64 (-9223372036854775808), .int .i64 9223372036854775807]), .bool true])) (HW : KR 270 #[.agg #[.int .i64 (-9223372036854775808), .int .i64 9223372036854775807], .int .u64 a] (.tuple #[.int .i64 s, .int .u64 m, .bool false])) (HN : KR 176 #[.agg #[.int .i64 p, .int .i64 mn, .int .i64 mx]] (.agg #[.int .u64 nan, .int .i64 1])) :
  QR 97 #[.int .i64 f, .int .i64 mode, .int .i64 kind, .int .u64 a] w (.agg #[.int .u64 nan, .int .i64 1]) := by
 go_enter Tryz.func97, Tryz.ntmps97
 go_wp2_with (first
  | (go_at_call 70; refine (HS.out _ Gr.g).mono ?_; rintro x w1 ⟨rfl, hg_w1⟩; obtain ⟨kr0, krz0, kr1, krz1⟩ := hg_w1.y2 w.heap.size 0 1 (.int .u64 0) (.int .i64 0); have hz1 := cell_size kr0)
  | (go_at_call 71; refine (HK.out _).mono ?_; rintro x w2 ⟨rfl, hg_w2⟩; obtain ⟨lr0, lrz0, lr1, lrz1⟩ := hg_w2.y2 w.heap.size 0 1 (.int .u64 0) (.int .i64 0); obtain ⟨ls0, ls1, ls2, ls3, ls4⟩ := hg_w2.e5 w1.heap.size 0 1 2 3 4 (.int .i64 p) (.int .i64 mn) (.int .i64 mx) (.int .i64 md) (.func (.func k) #[] #[]); have hz2 := cell_size lr0)
  | (go_at_call 270; refine (HW.out _).mono ?_; rintro x w3 ⟨rfl, hg_w3⟩; obtain ⟨nr0, nrz0, nr1, nrz1⟩ := hg_w3.y2 w.heap.size 0 1 (.int .u64 0) (.int .i64 0); obtain ⟨ns0, ns1, ns2, ns3, ns4⟩ := hg_w3.e5 w1.heap.size 0 1 2 3 4 (.int .i64 p) (.int .i64 mn) (.int .i64 mx) (.int .i64 md) (.func (.func k) #[] #[]))
  | (go_at_call 176; refine (HN.out _).mono ?_; rintro x w4 ⟨rfl, hg_w4⟩; obtain ⟨br0, brz0, br1, brz1⟩ := hg_w4.y2 w.heap.size 0 1 (.int .u64 0) (.int .i64 0)))
 refine bodyPost_ret (v := .agg #[.int .u64 nan, .int .i64 1]) (by simp [results, Tryz.results97, go_sem, br0, br1]) rfl ⟨rfl, ?_⟩
 exact Gr.g
theorem from_ok1 (p mn mx md f mode kind a s m : Int) (k : Nat) {w : World} (HS : Hid (∀ w', Gr w w' → QR 70 #[.int .i64 f, .int .i64 mode] w' (.tuple #[.agg #[.int .i64 p, .int .i64 mn, .int .i64 mx, .int .i64 md, .func (.func k) #[] #[]], .bool true]))) (HK : KR 71 #[.int .i64 kind] (.tuple #[.iface 178 (.agg #[.int .i64 (-9223372036854775808), .int .i64 9223372036854775807]), .bool true])) (HW : KR 270 #[.agg #[.int .i64 (-9223372036854775808), .int .i64 9223372036854775807], .int .u64 a] (.tuple #[.int .i64 s, .int .u64 m, .bool true])) (Q : Int → Int → Prop) (HR : Hid (∀ w, CT 186 #[.agg #[.int .i64 p, .int .i64 mn, .int .i64 mx, .int .i64 md, .func (.func k) #[] #[]], .int .i64 s, .int .i64 0, .agg #[.int .u64 0, .int .u64 m], .bool false] w fun e w' => ∃ z fl, Q z fl ∧ e = .returned (.agg #[.int .u64 z, .int .i64 fl]) ∧ Gr w w')) :
  CT 97 #[.int .i64 f, .int .i64 mode, .int .i64 kind, .int .u64 a] w fun e w' => ∃ z fl, Q z fl ∧ e = .returned (.agg #[.int .u64 z, .int .i64 fl]) ∧ Gr w w' := by
 go_enter Tryz.func97, Tryz.ntmps97
 go_wp2_with (first
  | (go_at_call 70; refine (HS.out _ Gr.g).mono ?_; rintro x w1 ⟨rfl, hg_w1⟩; obtain ⟨kr0, krz0, kr1, krz1⟩ := hg_w1.y2 w.heap.size 0 1 (.int .u64 0) (.int .i64 0); have hz1 := cell_size kr0)
  | (go_at_call 71; refine (HK.out _).mono ?_; rintro x w2 ⟨rfl, hg_w2⟩; obtain ⟨lr0, lrz0, lr1, lrz1⟩ := hg_w2.y2 w.heap.size 0 1 (.int .u64 0) (.int .i64 0); obtain ⟨ls0, ls1, ls2, ls3, ls4⟩ := hg_w2.e5 w1.heap.size 0 1 2 3 4 (.int .i64 p) (.int .i64 mn) (.int .i64 mx) (.int .i64 md) (.func (.func k) #[] #[]); have hz2 := cell_size lr0)
  | (go_at_call 270; refine (HW.out _).mono ?_; rintro x w3 ⟨rfl, hg_w3⟩; obtain ⟨nr0, nrz0, nr1, nrz1⟩ := hg_w3.y2 w.heap.size 0 1 (.int .u64 0) (.int .i64 0); obtain ⟨ns0, ns1, ns2, ns3, ns4⟩ := hg_w3.e5 w1.heap.size 0 1 2 3 4 (.int .i64 p) (.int .i64 mn) (.int .i64 mx) (.int .i64 md) (.func (.func k) #[] #[]))
  | (go_at_call 186; refine (HR.out _).mono ?_; rintro x w4 ⟨z, fl, hq, rfl, hg_w4⟩; obtain ⟨br0, brz0, br1, brz1⟩ := hg_w4.y2 w.heap.size 0 1 (.int .u64 0) (.int .i64 0)))
 refine bodyPost_ret (v := .agg #[.int .u64 z, .int .i64 fl]) (by simp [results, Tryz.results97, go_sem, br0, br1]) rfl ⟨z, fl, hq, rfl, ?_⟩
 exact Gr.g
end Go.Proofs.YtnbbfeknbfohhaaGreatDoor
set_option maxRecDepth 1000000
namespace Go.Proofs.YtnbbfeknbfohhaaGreatDoor
open Go.RowKit
theorem size_far (s e c mh ml fl : Int) (t : Bool) (h : decide (1 < c) = true) (w : World) :
  QR 76 #[.agg #[.int .i64 s, .int .i64 e, .int .i64 c, .int .u64 mh, .int .u64 ml, .bool t, .int .i64 fl]] w (.agg #[.int .u64 1, .int .u64 0]) := by
 go_enter Tryz.func76, Tryz.ntmps76
 go_wp2
 go_returns
 exact ⟨rfl, Gr.g⟩
theorem size_num (s e c mh ml fl k rh rl : Int) (t : Bool) (h : decide (1 < c) = false) (hk : min e 64 = k) (HS : KR 162 #[.agg #[.int .u64 mh, .int .u64 ml], .int .i64 k] (.agg #[.int .u64 rh, .int .u64 rl])) (w : World) :
  QR 76 #[.agg #[.int .i64 s, .int .i64 e, .int .i64 c, .int .u64 mh, .int .u64 ml, .bool t, .int .i64 fl]] w (.agg #[.int .u64 rh, .int .u64 rl]) := by
 go_enter Tryz.func76, Tryz.ntmps76
 go_wp2_with (go_at_call 162; refine (HS.out _).mono ?_; rintro x w1 ⟨rfl, hg_w1⟩; obtain ⟨ar0, arz0, ar1, arz1⟩ := hg_w1.y2 (w.heap.size + 1) 0 1 (.int .u64 0) (.int .u64 0))
 refine bodyPost_ret (v := .agg #[.int .u64 rh, .int .u64 rl]) (by simp [results, Tryz.results76, go_sem, ar0, ar1]) rfl ⟨rfl, ?_⟩
 exact Gr.g
theorem to_1 (p mn mx mode f kind a sx ex cx xh xl os oe oc oh ol of rh rl z r : Int) (tx ot q : Bool) (hq : q = false ∧ 1 = r ∨ q = true ∧ of = r) (k : Nat) {w : World} (HS : Hid (∀ w', Gr w w' → QR 70 #[.int .i64 f, .int .i64 mode] w' (.tuple #[.agg #[.int .i64 p, .int .i64 mn, .int .i64 mx, .int .i64 mode, .func (.func k) #[] #[]], .bool true]))) (HK : KR 71 #[.int .i64 kind] (.tuple #[.iface 178 (.agg #[.int .i64 (-9223372036854775808), .int .i64 9223372036854775807]), .bool true])) (HF : KR 72 #[.agg #[.int .i64 p, .int .i64 mn, .int .i64 mx], .int .u64 a] (.bool true)) (HA : KR 73 #[.agg #[.int .i64 p, .int .i64 mn, .int .i64 mx], .int .u64 a] (.agg #[.int .i64 sx, .int .i64 ex, .int .i64 cx, .int .u64 xh, .int .u64 xl, .bool tx, .int .i64 0])) (HC : KR 74 #[.agg #[.int .i64 p, .int .i64 mn, .int .i64 mx, .int .i64 mode, .func (.func k) #[] #[]], .func (.func 75) #[] #[], .agg #[.int .i64 sx, .int .i64 ex, .int .i64 cx, .int .u64 xh, .int .u64 xl, .bool tx, .int .i64 0], .agg #[.int .i64 sx, .int .i64 ex, .int .i64 cx, .int .u64 xh, .int .u64 xl, .bool tx, .int .i64 0]] (.agg #[.int .i64 os, .int .i64 oe, .int .i64 oc, .int .u64 oh, .int .u64 ol, .bool ot, .int .i64 of])) (HZ : KR 76 #[.agg #[.int .i64 os, .int .i64 oe, .int .i64 oc, .int .u64 oh, .int .u64 ol, .bool ot, .int .i64 of]] (.agg #[.int .u64 rh, .int .u64 rl])) (HT : KR 271 #[.agg #[.int .i64 (-9223372036854775808), .int .i64 9223372036854775807], .int .i64 os, .agg #[.int .u64 rh, .int .u64 rl]] (.tuple #[.int .u64 z, .bool q])) :
  QR 23 #[.int .i64 f, .int .i64 mode, .int .i64 kind, .int .u64 a] w (.agg #[.int .u64 z, .int .i64 r]) := by
 rcases hq with ⟨rfl, rfl⟩ | ⟨rfl, rfl⟩
 all_goals
  have hnil : ∀ w, Sem.run Tryz.prog (nilAhead 371 178 (.agg #[.int .i64 (-9223372036854775808), .int .i64 9223372036854775807]) "loop.example/s01330/impl.toWord") w = Result.ok (some false) w := fun w => by kernel_rfl
  go_enter Tryz.func23, Tryz.ntmps23
  go_upto_region 6 with (first
   | (go_at_call 70; refine (HS.out _ Gr.g).mono ?_; rintro x w1 ⟨rfl, hg_w1⟩; obtain ⟨kr0, krz0, kr1, krz1⟩ := hg_w1.y2 w.heap.size 0 1 (.int .u64 0) (.int .i64 0); have hz1 := cell_size kr0)
   | (go_at_call 71; refine (HK.out _).mono ?_; rintro x w2 ⟨rfl, hg_w2⟩; obtain ⟨lr0, lrz0, lr1, lrz1⟩ := hg_w2.y2 w.heap.size 0 1 (.int .u64 0) (.int .i64 0); obtain ⟨ls0, ls1, ls2, ls3, ls4⟩ := hg_w2.e5 w1.heap.size 0 1 2 3 4 (.int .i64 p) (.int .i64 mn) (.int .i64 mx) (.int .i64 mode) (.func (.func k) #[] #[]); have hz2 := cell_size lr0; have hy2 := cell_size ls0)
   | (go_at_call 72; refine (HF.out _).mono ?_; rintro x w3 ⟨rfl, hg_w3⟩; obtain ⟨nr0, nrz0, nr1, nrz1⟩ := hg_w3.y2 w.heap.size 0 1 (.int .u64 0) (.int .i64 0); obtain ⟨ns0, ns1, ns2, ns3, ns4⟩ := hg_w3.e5 w1.heap.size 0 1 2 3 4 (.int .i64 p) (.int .i64 mn) (.int .i64 mx) (.int .i64 mode) (.func (.func k) #[] #[]); have hz3 := cell_size nr0; have hy3 := cell_size ns0)
   | (go_at_call 73; refine (HA.out _).mono ?_; rintro x w4 ⟨rfl, hg_w4⟩; obtain ⟨pr0, prz0, pr1, prz1⟩ := hg_w4.y2 w.heap.size 0 1 (.int .u64 0) (.int .i64 0); obtain ⟨ps0, ps1, ps2, ps3, ps4⟩ := hg_w4.e5 w1.heap.size 0 1 2 3 4 (.int .i64 p) (.int .i64 mn) (.int .i64 mx) (.int .i64 mode) (.func (.func k) #[] #[]); have hz4 := cell_size pr0; have hy4 := cell_size ps0))
  obtain ⟨w5, hw5⟩ : ∃ w5, w4.alloc (.cells #[.int .i64 sx, .int .i64 ex, .int .i64 cx, .int .u64 xh, .int .u64 xl, .bool tx, .int .i64 0] 122) = w5 := ⟨_, rfl⟩
  have hg_w5 : Gr w4 w5 := by rw [← hw5]; exact (Gr.refl _).alloc _ _
  have x0 : w5.cell? ⟨w4.heap.size, 0, none⟩ = some (.int .i64 sx) := by rw [← hw5]; simp [go_sem]
  have xz0 : w5.frozen? ⟨w4.heap.size, 0, none⟩ = false := by rw [← hw5]; simp [go_sem]
  have x1 : w5.cell? ⟨w4.heap.size, 1, none⟩ = some (.int .i64 ex) := by rw [← hw5]; simp [go_sem]
  have xz1 : w5.frozen? ⟨w4.heap.size, 1, none⟩ = false := by rw [← hw5]; simp [go_sem]
  have x2 : w5.cell? ⟨w4.heap.size, 2, none⟩ = some (.int .i64 cx) := by rw [← hw5]; simp [go_sem]
  have xz2 : w5.frozen? ⟨w4.heap.size, 2, none⟩ = false := by rw [← hw5]; simp [go_sem]
  have x3 : w5.cell? ⟨w4.heap.size, 3, none⟩ = some (.int .u64 xh) := by rw [← hw5]; simp [go_sem]
  have xz3 : w5.frozen? ⟨w4.heap.size, 3, none⟩ = false := by rw [← hw5]; simp [go_sem]
  have x4 : w5.cell? ⟨w4.heap.size, 4, none⟩ = some (.int .u64 xl) := by rw [← hw5]; simp [go_sem]
  have xz4 : w5.frozen? ⟨w4.heap.size, 4, none⟩ = false := by rw [← hw5]; simp [go_sem]
  have x5 : w5.cell? ⟨w4.heap.size, 5, none⟩ = some (.bool tx) := by rw [← hw5]; simp [go_sem]
  have xz5 : w5.frozen? ⟨w4.heap.size, 5, none⟩ = false := by rw [← hw5]; simp [go_sem]
  have x6 : w5.cell? ⟨w4.heap.size, 6, none⟩ = some (.int .i64 0) := by rw [← hw5]; simp [go_sem]
  have xz6 : w5.frozen? ⟨w4.heap.size, 6, none⟩ = false := by rw [← hw5]; simp [go_sem]
  have hz5 : w4.heap.size < w5.heap.size := by rw [← hw5]; simp
  rw [hw5]
  clear hw5
  obtain ⟨rr0, rrz0, rr1, rrz1⟩ := hg_w5.y2 w.heap.size 0 1 (.int .u64 0) (.int .i64 0); obtain ⟨rs0, rs1, rs2, rs3, rs4⟩ := hg_w5.e5 w1.heap.size 0 1 2 3 4 (.int .i64 p) (.int .i64 mn) (.int .i64 mx) (.int .i64 mode) (.func (.func k) #[] #[])
  have hgw5 : Gr w w5 := Gr.g
  go_upto_region 7 with (go_at_call 74; refine (HC.out _).mono ?_; rintro x w6 ⟨rfl, hg_w6⟩; obtain ⟨tr0, trz0, tr1, trz1⟩ := hg_w6.y2 w.heap.size 0 1 (.int .u64 0) (.int .i64 0); obtain ⟨tx0, txz0, tx1, txz1, tx2, txz2, tx3, txz3, tx4, txz4, tx5, txz5, tx6, txz6⟩ := hg_w6.y7 w4.heap.size 0 1 2 3 4 5 6 (.int .i64 sx) (.int .i64 ex) (.int .i64 cx) (.int .u64 xh) (.int .u64 xl) (.bool tx) (.int .i64 0); have hz6 := cell_size tx0)
  obtain ⟨w7, hw7⟩ : ∃ w7, ((((((w6.setCell ⟨w4.heap.size, 0, none⟩ (.int .i64 os)).setCell ⟨w4.heap.size, 1, none⟩ (.int .i64 oe)).setCell ⟨w4.heap.size, 2, none⟩ (.int .i64 oc)).setCell ⟨w4.heap.size, 3, none⟩ (.int .u64 oh)).setCell ⟨w4.heap.size, 4, none⟩ (.int .u64 ol)).setCell ⟨w4.heap.size, 5, none⟩ (.bool ot)).setCell ⟨w4.heap.size, 6, none⟩ (.int .i64 of) = w7 := ⟨_, rfl⟩
  have hgw6 : Gr w w6 := Gr.g
  have hlt : w.heap.size ≤ w4.heap.size := by omega
  have hgw7 : Gr w w7 := by
   rw [← hw7]
   exact (((((((hgw6.setCell (a := ⟨w4.heap.size, 0, none⟩) hlt _).setCell (a := ⟨w4.heap.size, 1, none⟩) hlt _).setCell (a := ⟨w4.heap.size, 2, none⟩) hlt _).setCell (a := ⟨w4.heap.size, 3, none⟩) hlt _).setCell (a := ⟨w4.heap.size, 4, none⟩) hlt _).setCell (a := ⟨w4.heap.size, 5, none⟩) hlt _).setCell (a := ⟨w4.heap.size, 6, none⟩) hlt _)
  have y0 : w7.cell? ⟨w4.heap.size, 0, none⟩ = some (.int .i64 os) := by rw [← hw7]; exact kh
  have y1 : w7.cell? ⟨w4.heap.size, 1, none⟩ = some (.int .i64 oe) := by rw [← hw7]; exact kh
  have y2 : w7.cell? ⟨w4.heap.size, 2, none⟩ = some (.int .i64 oc) := by rw [← hw7]; exact kh
  have y3 : w7.cell? ⟨w4.heap.size, 3, none⟩ = some (.int .u64 oh) := by rw [← hw7]; exact kh
  have y4 : w7.cell? ⟨w4.heap.size, 4, none⟩ = some (.int .u64 ol) := by rw [← hw7]; exact kh
  have y5 : w7.cell? ⟨w4.heap.size, 5, none⟩ = some (.bool ot) := by rw [← hw7]; exact kh
  have y6 : w7.cell? ⟨w4.heap.size, 6, none⟩ = some (.int .i64 of) := by rw [← hw7]; exact kh
  have yr0 : w7.cell? ⟨w.heap.size, 0, none⟩ = some (.int .u64 0) := by rw [← hw7]; exact kh
  have yrz0 : w7.frozen? ⟨w.heap.size, 0, none⟩ = false := by rw [← hw7]; exact kh
  have yr1 : w7.cell? ⟨w.heap.size, 1, none⟩ = some (.int .i64 0) := by rw [← hw7]; exact kh
  have yrz1 : w7.frozen? ⟨w.heap.size, 1, none⟩ = false := by rw [← hw7]; exact kh
  have hz7 : w4.heap.size < w7.heap.size := cell_size y0
  rw [hw7]
  clear hw7
  go_region_held3 (fun w' => w'.cell? ⟨w4.heap.size, 0, none⟩ = some (.int .i64 os) ∧ w'.cell? ⟨w4.heap.size, 1, none⟩ = some (.int .i64 oe) ∧ w'.cell? ⟨w4.heap.size, 2, none⟩ = some (.int .i64 oc) ∧ w'.cell? ⟨w4.heap.size, 3, none⟩ = some (.int .u64 oh) ∧ w'.cell? ⟨w4.heap.size, 4, none⟩ = some (.int .u64 ol) ∧ w'.cell? ⟨w4.heap.size, 5, none⟩ = some (.bool ot) ∧ w'.cell? ⟨w4.heap.size, 6, none⟩ = some (.int .i64 of))
   ((go_split_ands; (repeat' apply And.intro) <;> exact kh))
   (first
    | (go_at_call 76; refine (HZ.out _).mono ?_; rintro x w8 ⟨rfl, hg_w8⟩; obtain ⟨vr0, vrz0, vr1, vrz1⟩ := hg_w8.y2 w.heap.size 0 1 (.int .u64 0) (.int .i64 0))
    | (go_at_call 271; refine (HT.out _).mono ?_; rintro x w9 ⟨rfl, hg_w9⟩; obtain ⟨zr0, zrz0, zr1, zrz1⟩ := hg_w9.y2 w.heap.size 0 1 (.int .u64 0) (.int .i64 0); have zx6 := hg_w9.e1 w4.heap.size 6 (.int .i64 of)))
  all_goals (try go_split_ands)
  all_goals go_wp2
  all_goals
   first | refine bodyPost_ret (v := .agg #[.int .u64 z, .int .i64 1]) (by simp [results, Tryz.results23, go_sem, zr0, zr1]) rfl ⟨rfl, ?_⟩ | refine bodyPost_ret (v := .agg #[.int .u64 z, .int .i64 of]) (by simp [results, Tryz.results23, go_sem, zr0, zr1]) rfl ⟨rfl, ?_⟩
   exact Gr.g
end Go.Proofs.YtnbbfeknbfohhaaGreatDoor
