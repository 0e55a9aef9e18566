/- impl's combine for toWhole. -/
import Derived.Test.YtfakbjgbbcigpaaGreatDoorB7
import Derived.Deep.DeepCutAuto
set_option linter.unusedVariables false
set_option linter.unusedSimpArgs false
namespace Go.Proofs.YtfakbjgbbcigpaaGreatDoor
open Go.RowKit

set_option maxRecDepth 100000 in
set_option maxHeartbeats 1000000 in
theorem combine_toWhole (p mn mx md : Int) (k : Nat) (sx ex cx xh xl sy ey cy yh yl : Int) (tx ty : Bool) (m : Int) (hm : max cx cy = m) (h3 : m < 3) (Q : Int → Int → Int → Int → Int → Bool → Int → Prop) (HO : Hid (∀ w, Calls Tryz.prog 38 #[.agg #[.int .i64 p, .int .i64 mn, .int .i64 mx, .int .i64 md, .func (.func k) #[] #[]], .agg #[.int .i64 sx, .int .i64 ex, .int .i64 cx, .int .u64 xh, .int .u64 xl, .bool tx, .int .i64 0], .agg #[.int .i64 sy, .int .i64 ey, .int .i64 cy, .int .u64 yh, .int .u64 yl, .bool ty, .int .i64 0]] w fun e w' => ∃ os oe oc oh ol ot of, Q os oe oc oh ol ot of ∧ e = .returned (.agg #[.int .i64 os, .int .i64 oe, .int .i64 oc, .int .u64 oh, .int .u64 ol, .bool ot, .int .i64 of]) ∧ Gr w w')) (w : World) :
    Calls Tryz.prog 37 #[.agg #[.int .i64 p, .int .i64 mn, .int .i64 mx, .int .i64 md, .func (.func k) #[] #[]], .func (.func 38) #[] #[], .agg #[.int .i64 sx, .int .i64 ex, .int .i64 cx, .int .u64 xh, .int .u64 xl, .bool tx, .int .i64 0], .agg #[.int .i64 sy, .int .i64 ey, .int .i64 cy, .int .u64 yh, .int .u64 yl, .bool ty, .int .i64 0]] w fun e w' => ∃ os oe oc oh ol ot of, Q os oe oc oh ol ot of ∧ e = .returned (.agg #[.int .i64 os, .int .i64 oe, .int .i64 oc, .int .u64 oh, .int .u64 ol, .bool ot, .int .i64 of]) ∧ Gr w w' := by
  go_enter Tryz.func37, Tryz.ntmps37
  go_wp2_with (go_at_call 38; refine (HO.out _).mono ?_; rintro e w1 ⟨os, oe, oc, oh, ol, ot, of, hq, rfl, hg_w1⟩; have ar0 : w1.cell? ⟨w.heap.size + 1 + 1 + 1, 0, none⟩ = some (.int .i64 0) := hg_w1.c; have arz0 : w1.frozen? ⟨w.heap.size + 1 + 1 + 1, 0, none⟩ = false := hg_w1.z; have ar1 : w1.cell? ⟨w.heap.size + 1 + 1 + 1, 1, none⟩ = some (.int .i64 0) := hg_w1.c; have arz1 : w1.frozen? ⟨w.heap.size + 1 + 1 + 1, 1, none⟩ = false := hg_w1.z; have ar2 : w1.cell? ⟨w.heap.size + 1 + 1 + 1, 2, none⟩ = some (.int .i64 0) := hg_w1.c; have arz2 : w1.frozen? ⟨w.heap.size + 1 + 1 + 1, 2, none⟩ = false := hg_w1.z; have ar3 : w1.cell? ⟨w.heap.size + 1 + 1 + 1, 3, none⟩ = some (.int .u64 0) := hg_w1.c; have arz3 : w1.frozen? ⟨w.heap.size + 1 + 1 + 1, 3, none⟩ = false := hg_w1.z; have ar4 : w1.cell? ⟨w.heap.size + 1 + 1 + 1, 4, none⟩ = some (.int .u64 0) := hg_w1.c; have arz4 : w1.frozen? ⟨w.heap.size + 1 + 1 + 1, 4, none⟩ = false := hg_w1.z; have ar5 : w1.cell? ⟨w.heap.size + 1 + 1 + 1, 5, none⟩ = some (.bool false) := hg_w1.c; have arz5 : w1.frozen? ⟨w.heap.size + 1 + 1 + 1, 5, none⟩ = false := hg_w1.z; have ar6 : w1.cell? ⟨w.heap.size + 1 + 1 + 1, 6, none⟩ = some (.int .i64 0) := hg_w1.c; have arz6 : w1.frozen? ⟨w.heap.size + 1 + 1 + 1, 6, none⟩ = false := hg_w1.z)
  refine bodyPost_ret (v := .agg #[.int .i64 os, .int .i64 oe, .int .i64 oc, .int .u64 oh, .int .u64 ol, .bool ot, .int .i64 of]) (by simp [results, Tryz.results37, go_sem, ar0, ar1, ar2, ar3, ar4, ar5, ar6]) rfl ⟨os, oe, oc, oh, ol, ot, of, hq, rfl, ?_⟩
  exact Gr.g

end Go.Proofs.YtfakbjgbbcigpaaGreatDoor

/- impl.toWhole and impl.RoundInt: the ways through them. -/
set_option linter.unusedVariables false
set_option linter.unusedSimpArgs false
namespace Go.Proofs.YtfakbjgbbcigpaaGreatDoor
open Go.RowKit

set_option maxRecDepth 1000000 in
set_option maxHeartbeats 4000000 in
theorem toWhole_c (p mn mx md : Int) (k : Nat) (sx ex cx xh xl sy ey cy yh yl : Int) (tx ty : Bool) (c : (cx != 1) = true) (w : World) :
    Calls Tryz.prog 38 #[.agg #[.int .i64 p, .int .i64 mn, .int .i64 mx, .int .i64 md, .func (.func k) #[] #[]], .agg #[.int .i64 sx, .int .i64 ex, .int .i64 cx, .int .u64 xh, .int .u64 xl, .bool tx, .int .i64 0], .agg #[.int .i64 sy, .int .i64 ey, .int .i64 cy, .int .u64 yh, .int .u64 yl, .bool ty, .int .i64 0]] w fun e w' => e = .returned (.agg #[.int .i64 sx, .int .i64 ex, .int .i64 cx, .int .u64 xh, .int .u64 xl, .bool tx, .int .i64 0]) ∧ Gr w w' := by
  go_enter Tryz.func38, Tryz.ntmps38
  go_wp2
  go_returns
  exact ⟨rfl, Gr.g⟩

set_option maxRecDepth 1000000 in
set_option maxHeartbeats 4000000 in
theorem toWhole_e (p mn mx md : Int) (k : Nat) (sx ex cx xh xl sy ey cy yh yl : Int) (tx ty : Bool) (c : cx = 1) (c2 : decide (0 ≤ ex) = true) (w : World) :
    Calls Tryz.prog 38 #[.agg #[.int .i64 p, .int .i64 mn, .int .i64 mx, .int .i64 md, .func (.func k) #[] #[]], .agg #[.int .i64 sx, .int .i64 ex, .int .i64 cx, .int .u64 xh, .int .u64 xl, .bool tx, .int .i64 0], .agg #[.int .i64 sy, .int .i64 ey, .int .i64 cy, .int .u64 yh, .int .u64 yl, .bool ty, .int .i64 0]] w fun e w' => e = .returned (.agg #[.int .i64 sx, .int .i64 ex, .int .i64 1, .int .u64 xh, .int .u64 xl, .bool tx, .int .i64 0]) ∧ Gr w w' := by
  subst c
  go_enter Tryz.func38, Tryz.ntmps38
  go_wp2
  go_returns
  exact ⟨rfl, Gr.g⟩

set_option maxRecDepth 1000000 in
set_option maxHeartbeats 4000000 in
theorem toWhole_x (p mn mx md : Int) (k : Nat) (sx ex cx xh xl sy ey cy yh yl : Int) (tx ty : Bool) (dr m : Int) (c : cx = 1) (c2 : decide (0 ≤ ex) = false) (hn : wrap64 (-ex) = dr) (HR : Hid (∀ w, Calls Tryz.prog 73 #[.func (.func k) #[] #[], .int .i64 dr, .int .i64 sx, .agg #[.int .u64 xh, .int .u64 xl], .bool false] w fun x w' => x = .returned (.tuple #[.int .u64 m, .bool true]) ∧ Gr w w')) (w : World) :
    Calls Tryz.prog 38 #[.agg #[.int .i64 p, .int .i64 mn, .int .i64 mx, .int .i64 md, .func (.func k) #[] #[]], .agg #[.int .i64 sx, .int .i64 ex, .int .i64 cx, .int .u64 xh, .int .u64 xl, .bool tx, .int .i64 0], .agg #[.int .i64 sy, .int .i64 ey, .int .i64 cy, .int .u64 yh, .int .u64 yl, .bool ty, .int .i64 0]] w fun e w' => e = .returned (.agg #[.int .i64 sx, .int .i64 0, .int .i64 1, .int .u64 0, .int .u64 m, .bool tx, .int .i64 16]) ∧ Gr w w' := by
  subst c
  go_enter Tryz.func38, Tryz.ntmps38
  go_wp2_with (go_at_call 73; refine (HR.out _).mono ?_; rintro x w1 ⟨rfl, hg_w1⟩; have ax0 : w1.cell? ⟨w.heap.size + 1, 0, none⟩ = some (.int .i64 sx) := hg_w1.c; have axz0 : w1.frozen? ⟨w.heap.size + 1, 0, none⟩ = false := hg_w1.z; have ax1 : w1.cell? ⟨w.heap.size + 1, 1, none⟩ = some (.int .i64 ex) := hg_w1.c; have axz1 : w1.frozen? ⟨w.heap.size + 1, 1, none⟩ = false := hg_w1.z; have ax2 : w1.cell? ⟨w.heap.size + 1, 2, none⟩ = some (.int .i64 1) := hg_w1.c; have axz2 : w1.frozen? ⟨w.heap.size + 1, 2, none⟩ = false := hg_w1.z; have ax3 : w1.cell? ⟨w.heap.size + 1, 3, none⟩ = some (.int .u64 xh) := hg_w1.c; have axz3 : w1.frozen? ⟨w.heap.size + 1, 3, none⟩ = false := hg_w1.z; have ax4 : w1.cell? ⟨w.heap.size + 1, 4, none⟩ = some (.int .u64 xl) := hg_w1.c; have axz4 : w1.frozen? ⟨w.heap.size + 1, 4, none⟩ = false := hg_w1.z; have ax5 : w1.cell? ⟨w.heap.size + 1, 5, none⟩ = some (.bool tx) := hg_w1.c; have axz5 : w1.frozen? ⟨w.heap.size + 1, 5, none⟩ = false := hg_w1.z; have ax6 : w1.cell? ⟨w.heap.size + 1, 6, none⟩ = some (.int .i64 0) := hg_w1.c; have axz6 : w1.frozen? ⟨w.heap.size + 1, 6, none⟩ = false := hg_w1.z; have ar0 : w1.cell? ⟨w.heap.size + 1 + 1 + 1, 0, none⟩ = some (.int .i64 0) := hg_w1.c; have arz0 : w1.frozen? ⟨w.heap.size + 1 + 1 + 1, 0, none⟩ = false := hg_w1.z; have ar1 : w1.cell? ⟨w.heap.size + 1 + 1 + 1, 1, none⟩ = some (.int .i64 0) := hg_w1.c; have arz1 : w1.frozen? ⟨w.heap.size + 1 + 1 + 1, 1, none⟩ = false := hg_w1.z; have ar2 : w1.cell? ⟨w.heap.size + 1 + 1 + 1, 2, none⟩ = some (.int .i64 0) := hg_w1.c; have arz2 : w1.frozen? ⟨w.heap.size + 1 + 1 + 1, 2, none⟩ = false := hg_w1.z; have ar3 : w1.cell? ⟨w.heap.size + 1 + 1 + 1, 3, none⟩ = some (.int .u64 0) := hg_w1.c; have arz3 : w1.frozen? ⟨w.heap.size + 1 + 1 + 1, 3, none⟩ = false := hg_w1.z; have ar4 : w1.cell? ⟨w.heap.size + 1 + 1 + 1, 4, none⟩ = some (.int .u64 0) := hg_w1.c; have arz4 : w1.frozen? ⟨w.heap.size + 1 + 1 + 1, 4, none⟩ = false := hg_w1.z; have ar5 : w1.cell? ⟨w.heap.size + 1 + 1 + 1, 5, none⟩ = some (.bool false) := hg_w1.c; have arz5 : w1.frozen? ⟨w.heap.size + 1 + 1 + 1, 5, none⟩ = false := hg_w1.z; have ar6 : w1.cell? ⟨w.heap.size + 1 + 1 + 1, 6, none⟩ = some (.int .i64 0) := hg_w1.c; have arz6 : w1.frozen? ⟨w.heap.size + 1 + 1 + 1, 6, none⟩ = false := hg_w1.z; have hz1 := cell_size ar0)
  refine bodyPost_ret (v := .agg #[.int .i64 sx, .int .i64 0, .int .i64 1, .int .u64 0, .int .u64 m, .bool tx, .int .i64 16]) (by simp [results, Tryz.results38, go_sem, ar0, ar1, ar2, ar3, ar4, ar5, ar6]) rfl ⟨rfl, ?_⟩
  exact Gr.g

set_option maxRecDepth 1000000 in
set_option maxHeartbeats 4000000 in
theorem toWhole_w (p mn mx md : Int) (k : Nat) (sx ex cx xh xl sy ey cy yh yl : Int) (tx ty : Bool) (dr m : Int) (c : cx = 1) (c2 : decide (0 ≤ ex) = false) (hn : wrap64 (-ex) = dr) (HR : Hid (∀ w, Calls Tryz.prog 73 #[.func (.func k) #[] #[], .int .i64 dr, .int .i64 sx, .agg #[.int .u64 xh, .int .u64 xl], .bool false] w fun x w' => x = .returned (.tuple #[.int .u64 m, .bool false]) ∧ Gr w w')) (w : World) :
    Calls Tryz.prog 38 #[.agg #[.int .i64 p, .int .i64 mn, .int .i64 mx, .int .i64 md, .func (.func k) #[] #[]], .agg #[.int .i64 sx, .int .i64 ex, .int .i64 cx, .int .u64 xh, .int .u64 xl, .bool tx, .int .i64 0], .agg #[.int .i64 sy, .int .i64 ey, .int .i64 cy, .int .u64 yh, .int .u64 yl, .bool ty, .int .i64 0]] w fun e w' => e = .returned (.agg #[.int .i64 sx, .int .i64 0, .int .i64 1, .int .u64 0, .int .u64 m, .bool tx, .int .i64 0]) ∧ Gr w w' := by
  subst c
  go_enter Tryz.func38, Tryz.ntmps38
  go_wp2_with (go_at_call 73; refine (HR.out _).mono ?_; rintro x w1 ⟨rfl, hg_w1⟩; have ax0 : w1.cell? ⟨w.heap.size + 1, 0, none⟩ = some (.int .i64 sx) := hg_w1.c; have axz0 : w1.frozen? ⟨w.heap.size + 1, 0, none⟩ = false := hg_w1.z; have ax1 : w1.cell? ⟨w.heap.size + 1, 1, none⟩ = some (.int .i64 ex) := hg_w1.c; have axz1 : w1.frozen? ⟨w.heap.size + 1, 1, none⟩ = false := hg_w1.z; have ax2 : w1.cell? ⟨w.heap.size + 1, 2, none⟩ = some (.int .i64 1) := hg_w1.c; have axz2 : w1.frozen? ⟨w.heap.size + 1, 2, none⟩ = false := hg_w1.z; have ax3 : w1.cell? ⟨w.heap.size + 1, 3, none⟩ = some (.int .u64 xh) := hg_w1.c; have axz3 : w1.frozen? ⟨w.heap.size + 1, 3, none⟩ = false := hg_w1.z; have ax4 : w1.cell? ⟨w.heap.size + 1, 4, none⟩ = some (.int .u64 xl) := hg_w1.c; have axz4 : w1.frozen? ⟨w.heap.size + 1, 4, none⟩ = false := hg_w1.z; have ax5 : w1.cell? ⟨w.heap.size + 1, 5, none⟩ = some (.bool tx) := hg_w1.c; have axz5 : w1.frozen? ⟨w.heap.size + 1, 5, none⟩ = false := hg_w1.z; have ax6 : w1.cell? ⟨w.heap.size + 1, 6, none⟩ = some (.int .i64 0) := hg_w1.c; have axz6 : w1.frozen? ⟨w.heap.size + 1, 6, none⟩ = false := hg_w1.z; have ar0 : w1.cell? ⟨w.heap.size + 1 + 1 + 1, 0, none⟩ = some (.int .i64 0) := hg_w1.c; have arz0 : w1.frozen? ⟨w.heap.size + 1 + 1 + 1, 0, none⟩ = false := hg_w1.z; have ar1 : w1.cell? ⟨w.heap.size + 1 + 1 + 1, 1, none⟩ = some (.int .i64 0) := hg_w1.c; have arz1 : w1.frozen? ⟨w.heap.size + 1 + 1 + 1, 1, none⟩ = false := hg_w1.z; have ar2 : w1.cell? ⟨w.heap.size + 1 + 1 + 1, 2, none⟩ = some (.int .i64 0) := hg_w1.c; have arz2 : w1.frozen? ⟨w.heap.size + 1 + 1 + 1, 2, none⟩ = false := hg_w1.z; have ar3 : w1.cell? ⟨w.heap.size + 1 + 1 + 1, 3, none⟩ = some (.int .u64 0) := hg_w1.c; have arz3 : w1.frozen? ⟨w.heap.size + 1 + 1 + 1, 3, none⟩ = false := hg_w1.z; have ar4 : w1.cell? ⟨w.heap.size + 1 + 1 + 1, 4, none⟩ = some (.int .u64 0) := hg_w1.c; have arz4 : w1.frozen? ⟨w.heap.size + 1 + 1 + 1, 4, none⟩ = false := hg_w1.z; have ar5 : w1.cell? ⟨w.heap.size + 1 + 1 + 1, 5, none⟩ = some (.bool false) := hg_w1.c; have arz5 : w1.frozen? ⟨w.heap.size + 1 + 1 + 1, 5, none⟩ = false := hg_w1.z; have ar6 : w1.cell? ⟨w.heap.size + 1 + 1 + 1, 6, none⟩ = some (.int .i64 0) := hg_w1.c; have arz6 : w1.frozen? ⟨w.heap.size + 1 + 1 + 1, 6, none⟩ = false := hg_w1.z; have hz1 := cell_size ar0)
  refine bodyPost_ret (v := .agg #[.int .i64 sx, .int .i64 0, .int .i64 1, .int .u64 0, .int .u64 m, .bool tx, .int .i64 0]) (by simp [results, Tryz.results38, go_sem, ar0, ar1, ar2, ar3, ar4, ar5, ar6]) rfl ⟨rfl, ?_⟩
  exact Gr.g

set_option maxRecDepth 1000000 in
set_option maxHeartbeats 4000000 in
theorem rint_x (f mode a : Int) (R : Int → Int → Prop) {w : World} (HC : Hid (∀ w', Gr w w' → Calls Tryz.prog 54 #[.int .i64 f, .int .i64 mode, .func (.func 38) #[] #[], .int .u64 a, .int .u64 a] w' fun e w'' => ∃ z fl, R z fl ∧ e = .returned (.agg #[.int .u64 z, .int .i64 fl]) ∧ Gr w' w'')) :
    Calls Tryz.prog 15 #[.int .i64 f, .int .i64 mode, .int .u64 a, .bool true] w fun e w' => ∃ z fl, R z fl ∧ e = .returned (.agg #[.int .u64 z, .int .i64 fl]) ∧ Gr w w' := by
  go_enter Tryz.func15, Tryz.ntmps15
  go_upto_region 2 with (go_at_call 54; refine (HC.out _ Gr.g).mono ?_; rintro e w1 ⟨z, fl, hr, rfl, hg_w1⟩; have ar0 : w1.cell? ⟨w.heap.size, 0, none⟩ = some (.int .u64 0) := hg_w1.c; have arz0 : w1.frozen? ⟨w.heap.size, 0, none⟩ = false := hg_w1.z; have ar1 : w1.cell? ⟨w.heap.size, 1, none⟩ = some (.int .i64 0) := hg_w1.c; have arz1 : w1.frozen? ⟨w.heap.size, 1, none⟩ = false := hg_w1.z; have hz1 := cell_size ar0)
  obtain ⟨w2, hw2⟩ : ∃ w2, w1.alloc (.cells #[.int .u64 z, .int .i64 fl] 27) = w2 := ⟨_, rfl⟩
  have hg_w2 : Gr w1 w2 := by rw [← hw2]; exact (Gr.refl _).alloc _ _
  have x0 : w2.cell? ⟨w1.heap.size, 0, none⟩ = some (.int .u64 z) := by rw [← hw2]; simp [go_sem]
  have x1 : w2.cell? ⟨w1.heap.size, 1, none⟩ = some (.int .i64 fl) := by rw [← hw2]; simp [go_sem]
  have xz1 : w2.frozen? ⟨w1.heap.size, 1, none⟩ = false := by rw [← hw2]; simp [go_sem]
  have hz2 : w1.heap.size < w2.heap.size := by rw [← hw2]; simp
  rw [hw2]
  clear hw2
  have br0 : w2.cell? ⟨w.heap.size, 0, none⟩ = some (.int .u64 0) := hg_w2.c; have brz0 : w2.frozen? ⟨w.heap.size, 0, none⟩ = false := hg_w2.z; have br1 : w2.cell? ⟨w.heap.size, 1, none⟩ = some (.int .i64 0) := hg_w2.c; have brz1 : w2.frozen? ⟨w.heap.size, 1, none⟩ = false := hg_w2.z
  have hgw : Gr w w2 := Gr.g
  go_wp2
  refine bodyPost_ret (v := .agg #[.int .u64 z, .int .i64 fl]) (by simp [results, Tryz.results15, go_sem, br0, br1]) rfl ⟨z, fl, hr, rfl, ?_⟩
  exact Gr.g

set_option maxRecDepth 1000000 in
set_option maxHeartbeats 4000000 in
theorem rint_n (f mode a : Int) (R : Int → Int → Prop) (G : Int → Int) (hG : Hid (∀ z fl, R z fl → bits .andNot .i64 fl 16 = G fl)) {w : World} (HC : Hid (∀ w', Gr w w' → Calls Tryz.prog 54 #[.int .i64 f, .int .i64 mode, .func (.func 38) #[] #[], .int .u64 a, .int .u64 a] w' fun e w'' => ∃ z fl, R z fl ∧ e = .returned (.agg #[.int .u64 z, .int .i64 fl]) ∧ Gr w' w'')) :
    Calls Tryz.prog 15 #[.int .i64 f, .int .i64 mode, .int .u64 a, .bool false] w fun e w' => ∃ z fl, R z fl ∧ e = .returned (.agg #[.int .u64 z, .int .i64 (G fl)]) ∧ Gr w w' := by
  go_enter Tryz.func15, Tryz.ntmps15
  go_upto_region 2 with (go_at_call 54; refine (HC.out _ Gr.g).mono ?_; rintro e w1 ⟨z, fl, hr, rfl, hg_w1⟩; have ar0 : w1.cell? ⟨w.heap.size, 0, none⟩ = some (.int .u64 0) := hg_w1.c; have arz0 : w1.frozen? ⟨w.heap.size, 0, none⟩ = false := hg_w1.z; have ar1 : w1.cell? ⟨w.heap.size, 1, none⟩ = some (.int .i64 0) := hg_w1.c; have arz1 : w1.frozen? ⟨w.heap.size, 1, none⟩ = false := hg_w1.z; have hz1 := cell_size ar0; have hand := hG.out z fl hr)
  obtain ⟨w2, hw2⟩ : ∃ w2, w1.alloc (.cells #[.int .u64 z, .int .i64 fl] 27) = w2 := ⟨_, rfl⟩
  have hg_w2 : Gr w1 w2 := by rw [← hw2]; exact (Gr.refl _).alloc _ _
  have x0 : w2.cell? ⟨w1.heap.size, 0, none⟩ = some (.int .u64 z) := by rw [← hw2]; simp [go_sem]
  have x1 : w2.cell? ⟨w1.heap.size, 1, none⟩ = some (.int .i64 fl) := by rw [← hw2]; simp [go_sem]
  have xz1 : w2.frozen? ⟨w1.heap.size, 1, none⟩ = false := by rw [← hw2]; simp [go_sem]
  have hz2 : w1.heap.size < w2.heap.size := by rw [← hw2]; simp
  rw [hw2]
  clear hw2
  have br0 : w2.cell? ⟨w.heap.size, 0, none⟩ = some (.int .u64 0) := hg_w2.c; have brz0 : w2.frozen? ⟨w.heap.size, 0, none⟩ = false := hg_w2.z; have br1 : w2.cell? ⟨w.heap.size, 1, none⟩ = some (.int .i64 0) := hg_w2.c; have brz1 : w2.frozen? ⟨w.heap.size, 1, none⟩ = false := hg_w2.z
  have hgw : Gr w w2 := Gr.g
  go_wp2
  refine bodyPost_ret (v := .agg #[.int .u64 z, .int .i64 (G fl)]) (by simp [results, Tryz.results15, go_sem, br0, br1]) rfl ⟨z, fl, hr, rfl, ?_⟩
  exact Gr.g

end Go.Proofs.YtfakbjgbbcigpaaGreatDoor
