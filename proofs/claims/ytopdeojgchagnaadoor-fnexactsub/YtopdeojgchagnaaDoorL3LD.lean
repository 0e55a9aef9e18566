/- impl.difference, impl.Sub: the ways through them. -/
import Derived.Test.YtopdeojgchagnaaDoorL3I
import Derived.Deep.DeepCutAuto
set_option linter.unusedVariables false
set_option linter.unusedSimpArgs false
namespace Go.Proofs.YtopdeojgchagnaaDoor
open Go.RowKit


set_option maxRecDepth 100000 in
set_option maxHeartbeats 1000000 in
theorem difference_any (p mn mx md : Int) (k : Nat) (sx ex cx xh xl sy ey cy yh yl : Int) (tx ty : Bool) (z : Int) (hz : bits .xor .i64 sy 1 = z) (Q : Int → Int → Int → Int → Int → Bool → Prop) (HT : Hid (∀ w, Calls Tryd.prog 48 #[.agg #[.int .i64 p, .int .i64 mn, .int .i64 mx, .int .i64 md, .func (.func k) #[] #[]], .agg #[.int .i64 sx, .int .i64 ex, .int .i64 cx, .int .u64 xh, .int .u64 xl, .bool tx, .int .i64 0], .agg #[.int .i64 z, .int .i64 ey, .int .i64 cy, .int .u64 yh, .int .u64 yl, .bool ty, .int .i64 0]] w fun e w' => ∃ os oe oc oh ol ot, Q os oe oc oh ol ot ∧ e = .returned (.agg #[.int .i64 os, .int .i64 oe, .int .i64 oc, .int .u64 oh, .int .u64 ol, .bool ot, .int .i64 0]) ∧ Gr w w')) (w : World) :
    Calls Tryd.prog 53 #[.agg #[.int .i64 p, .int .i64 mn, .int .i64 mx, .int .i64 md, .func (.func k) #[] #[]], .agg #[.int .i64 sx, .int .i64 ex, .int .i64 cx, .int .u64 xh, .int .u64 xl, .bool tx, .int .i64 0], .agg #[.int .i64 sy, .int .i64 ey, .int .i64 cy, .int .u64 yh, .int .u64 yl, .bool ty, .int .i64 0]] w fun e w' => ∃ os oe oc oh ol ot, Q os oe oc oh ol ot ∧ e = .returned (.agg #[.int .i64 os, .int .i64 oe, .int .i64 oc, .int .u64 oh, .int .u64 ol, .bool ot, .int .i64 0]) ∧ Gr w w' := by
  go_enter Tryd.func53, Tryd.ntmps53
  go_wp2_with (go_at_call 48; refine (HT.out _).mono ?_; rintro e w1 ⟨os, oe, oc, oh, ol, ot, hq, rfl, hg_w1⟩; have ar0 : w1.cell? ⟨w.heap.size + 1 + 1 + 1, 0, none⟩ = some (.int .i64 0) := hg_w1.c; have arz0 : w1.frozen? ⟨w.heap.size + 1 + 1 + 1, 0, none⟩ = false := hg_w1.z; have ar1 : w1.cell? ⟨w.heap.size + 1 + 1 + 1, 1, none⟩ = some (.int .i64 0) := hg_w1.c; have arz1 : w1.frozen? ⟨w.heap.size + 1 + 1 + 1, 1, none⟩ = false := hg_w1.z; have ar2 : w1.cell? ⟨w.heap.size + 1 + 1 + 1, 2, none⟩ = some (.int .i64 0) := hg_w1.c; have arz2 : w1.frozen? ⟨w.heap.size + 1 + 1 + 1, 2, none⟩ = false := hg_w1.z; have ar3 : w1.cell? ⟨w.heap.size + 1 + 1 + 1, 3, none⟩ = some (.int .u64 0) := hg_w1.c; have arz3 : w1.frozen? ⟨w.heap.size + 1 + 1 + 1, 3, none⟩ = false := hg_w1.z; have ar4 : w1.cell? ⟨w.heap.size + 1 + 1 + 1, 4, none⟩ = some (.int .u64 0) := hg_w1.c; have arz4 : w1.frozen? ⟨w.heap.size + 1 + 1 + 1, 4, none⟩ = false := hg_w1.z; have ar5 : w1.cell? ⟨w.heap.size + 1 + 1 + 1, 5, none⟩ = some (.bool false) := hg_w1.c; have arz5 : w1.frozen? ⟨w.heap.size + 1 + 1 + 1, 5, none⟩ = false := hg_w1.z; have ar6 : w1.cell? ⟨w.heap.size + 1 + 1 + 1, 6, none⟩ = some (.int .i64 0) := hg_w1.c; have arz6 : w1.frozen? ⟨w.heap.size + 1 + 1 + 1, 6, none⟩ = false := hg_w1.z)
  refine bodyPost_ret (v := .agg #[.int .i64 os, .int .i64 oe, .int .i64 oc, .int .u64 oh, .int .u64 ol, .bool ot, .int .i64 0]) (by simp [results, Tryd.results53, go_sem, ar0, ar1, ar2, ar3, ar4, ar5, ar6]) rfl ⟨os, oe, oc, oh, ol, ot, hq, rfl, ?_⟩
  exact Gr.g

set_option maxRecDepth 100000 in
set_option maxHeartbeats 1000000 in
theorem combine_difference (p mn mx md : Int) (k : Nat) (sx ex cx xh xl sy ey cy yh yl : Int) (tx ty : Bool) (m : Int) (hm : max cx cy = m) (h3 : m < 3) (Q : Int → Int → Int → Int → Int → Bool → Prop) (HO : Hid (∀ w, Calls Tryd.prog 53 #[.agg #[.int .i64 p, .int .i64 mn, .int .i64 mx, .int .i64 md, .func (.func k) #[] #[]], .agg #[.int .i64 sx, .int .i64 ex, .int .i64 cx, .int .u64 xh, .int .u64 xl, .bool tx, .int .i64 0], .agg #[.int .i64 sy, .int .i64 ey, .int .i64 cy, .int .u64 yh, .int .u64 yl, .bool ty, .int .i64 0]] w fun e w' => ∃ os oe oc oh ol ot, Q os oe oc oh ol ot ∧ e = .returned (.agg #[.int .i64 os, .int .i64 oe, .int .i64 oc, .int .u64 oh, .int .u64 ol, .bool ot, .int .i64 0]) ∧ Gr w w')) (w : World) :
    Calls Tryd.prog 72 #[.agg #[.int .i64 p, .int .i64 mn, .int .i64 mx, .int .i64 md, .func (.func k) #[] #[]], .func (.func 53) #[] #[], .agg #[.int .i64 sx, .int .i64 ex, .int .i64 cx, .int .u64 xh, .int .u64 xl, .bool tx, .int .i64 0], .agg #[.int .i64 sy, .int .i64 ey, .int .i64 cy, .int .u64 yh, .int .u64 yl, .bool ty, .int .i64 0]] w fun e w' => ∃ os oe oc oh ol ot, Q os oe oc oh ol ot ∧ e = .returned (.agg #[.int .i64 os, .int .i64 oe, .int .i64 oc, .int .u64 oh, .int .u64 ol, .bool ot, .int .i64 0]) ∧ Gr w w' := by
  go_enter Tryd.func72, Tryd.ntmps72
  go_wp2_with (go_at_call 53; refine (HO.out _).mono ?_; rintro e w1 ⟨os, oe, oc, oh, ol, ot, hq, rfl, hg_w1⟩; have ar0 : w1.cell? ⟨w.heap.size + 1 + 1 + 1, 0, none⟩ = some (.int .i64 0) := hg_w1.c; have arz0 : w1.frozen? ⟨w.heap.size + 1 + 1 + 1, 0, none⟩ = false := hg_w1.z; have ar1 : w1.cell? ⟨w.heap.size + 1 + 1 + 1, 1, none⟩ = some (.int .i64 0) := hg_w1.c; have arz1 : w1.frozen? ⟨w.heap.size + 1 + 1 + 1, 1, none⟩ = false := hg_w1.z; have ar2 : w1.cell? ⟨w.heap.size + 1 + 1 + 1, 2, none⟩ = some (.int .i64 0) := hg_w1.c; have arz2 : w1.frozen? ⟨w.heap.size + 1 + 1 + 1, 2, none⟩ = false := hg_w1.z; have ar3 : w1.cell? ⟨w.heap.size + 1 + 1 + 1, 3, none⟩ = some (.int .u64 0) := hg_w1.c; have arz3 : w1.frozen? ⟨w.heap.size + 1 + 1 + 1, 3, none⟩ = false := hg_w1.z; have ar4 : w1.cell? ⟨w.heap.size + 1 + 1 + 1, 4, none⟩ = some (.int .u64 0) := hg_w1.c; have arz4 : w1.frozen? ⟨w.heap.size + 1 + 1 + 1, 4, none⟩ = false := hg_w1.z; have ar5 : w1.cell? ⟨w.heap.size + 1 + 1 + 1, 5, none⟩ = some (.bool false) := hg_w1.c; have arz5 : w1.frozen? ⟨w.heap.size + 1 + 1 + 1, 5, none⟩ = false := hg_w1.z; have ar6 : w1.cell? ⟨w.heap.size + 1 + 1 + 1, 6, none⟩ = some (.int .i64 0) := hg_w1.c; have arz6 : w1.frozen? ⟨w.heap.size + 1 + 1 + 1, 6, none⟩ = false := hg_w1.z)
  refine bodyPost_ret (v := .agg #[.int .i64 os, .int .i64 oe, .int .i64 oc, .int .u64 oh, .int .u64 ol, .bool ot, .int .i64 0]) (by simp [results, Tryd.results72, go_sem, ar0, ar1, ar2, ar3, ar4, ar5, ar6]) rfl ⟨os, oe, oc, oh, ol, ot, hq, rfl, ?_⟩
  exact Gr.g

set_option maxRecDepth 1000000 in
set_option maxHeartbeats 4000000 in
theorem implSub_of (f mode a b : Int) (R : Int → Int → Prop) {w : World} (HC : Hid (∀ w', Gr w w' → Calls Tryd.prog 35 #[.int .i64 f, .int .i64 mode, .func (.func 53) #[] #[], .int .u64 a, .int .u64 b] w' fun e w'' => ∃ z fl, R z fl ∧ e = .returned (.agg #[.int .u64 z, .int .i64 fl]) ∧ Gr w' w'')) :
    Calls Tryd.prog 21 #[.int .i64 f, .int .i64 mode, .int .u64 a, .int .u64 b] w fun e w' => ∃ z fl, R z fl ∧ e = .returned (.agg #[.int .u64 z, .int .i64 fl]) ∧ Gr w w' := by
  go_enter Tryd.func21, Tryd.ntmps21
  go_wp2_with (go_at_call 35; refine (HC.out _ Gr.g).mono ?_; rintro e w1 ⟨z, fl, hr, rfl, hg_w1⟩; have ar0 : w1.cell? ⟨w.heap.size, 0, none⟩ = some (.int .u64 0) := hg_w1.c; have arz0 : w1.frozen? ⟨w.heap.size, 0, none⟩ = false := hg_w1.z; have ar1 : w1.cell? ⟨w.heap.size, 1, none⟩ = some (.int .i64 0) := hg_w1.c; have arz1 : w1.frozen? ⟨w.heap.size, 1, none⟩ = false := hg_w1.z)
  refine bodyPost_ret (v := .agg #[.int .u64 z, .int .i64 fl]) (by simp [results, Tryd.results21, go_sem, ar0, ar1]) rfl ⟨z, fl, hr, rfl, ?_⟩
  exact Gr.g
end Go.Proofs.YtopdeojgchagnaaDoor
