import Derived.Test.YtnbbfeknbfohhaaGreatDoorB7
import Derived.Deep.DeepCutAuto
import Derived.Test.YtnbbfeknbfohhaaGreatDoorA7
import Derived.Deep.RegionHeld3
import Derived.BigQuiet
import Derived.Deep.QuietTactic
import Derived.Test.YtnbbfeknbfohhaaGreatDoorA2
set_option linter.unusedVariables false
set_option linter.unusedSimpArgs false
set_option maxRecDepth 1000000
set_option maxHeartbeats 40000000
open Go.Value renaming int → J, agg → O, bool → X
open Go.IntKind renaming i64 → Y, u64 → Z
namespace Go.Proofs.YtnbbfeknbfohhaaGreatDoor
open Go.RowKit
theorem combine_toWhole (p mn mx md : Int) (k : Nat) (sx ex cx xh xl sy ey cy yh yl : Int) (tx ty : Bool) (m : Int) (hm : max cx cy = m) (h3 : m < 3) (Q : Int → Int → Int → Int → Int → Bool → Int → Prop) (HO : Hid (∀ w, CT 75 #[O #[J Y p, J Y mn, J Y mx, J Y md, .func (.func k) #[] #[]], O #[J Y sx, J Y ex, J Y cx, J Z xh, J Z xl, X tx, J Y 0], O #[J Y sy, J Y ey, J Y cy, J Z yh, J Z yl, X ty, J Y 0]] w fun e w' => ∃ os oe oc oh ol ot of, Q os oe oc oh ol ot of ∧ e = .returned (O #[J Y os, J Y oe, J Y oc, J Z oh, J Z ol, X ot, J Y of]) ∧ Gr w w')) (w : World) :
  CT 74 #[O #[J Y p, J Y mn, J Y mx, J Y md, .func (.func k) #[] #[]], .func (.func 75) #[] #[], O #[J Y sx, J Y ex, J Y cx, J Z xh, J Z xl, X tx, J Y 0], O #[J Y sy, J Y ey, J Y cy, J Z yh, J Z yl, X ty, J Y 0]] w fun e w' => ∃ os oe oc oh ol ot of, Q os oe oc oh ol ot of ∧ e = .returned (O #[J Y os, J Y oe, J Y oc, J Z oh, J Z ol, X ot, J Y of]) ∧ Gr w w' := by
 go_enter Tryz.func74, Tryz.ntmps74
 go_wp2_with (go_at_call 75; refine (HO.out _).mono ?_; rintro e w1 ⟨os, oe, oc, oh, ol, ot, of, hq, rfl, hg_w1⟩; obtain ⟨ar0, arz0, ar1, arz1, ar2, arz2, ar3, arz3, ar4, arz4, ar5, arz5, ar6, arz6⟩ := hg_w1.y7 (w.heap.size + 1 + 1 + 1) 0 1 2 3 4 5 6 (J Y 0) (J Y 0) (J Y 0) (J Z 0) (J Z 0) (X false) (J Y 0))
 refine bodyPost_ret (v := O #[J Y os, J Y oe, J Y oc, J Z oh, J Z ol, X ot, J Y of]) (by simp [results, Tryz.results74, go_sem, ar0, ar1, ar2, ar3, ar4, ar5, ar6]) rfl ⟨os, oe, oc, oh, ol, ot, of, hq, rfl, ?_⟩
 exact Gr.g
set_option maxRecDepth 1000000
theorem toWhole_c (p mn mx md : Int) (k : Nat) (sx ex cx xh xl sy ey cy yh yl : Int) (tx ty : Bool) (c : (cx != 1) = true) (w : World) :
  QR 75 #[O #[J Y p, J Y mn, J Y mx, J Y md, .func (.func k) #[] #[]], O #[J Y sx, J Y ex, J Y cx, J Z xh, J Z xl, X tx, J Y 0], O #[J Y sy, J Y ey, J Y cy, J Z yh, J Z yl, X ty, J Y 0]] w (O #[J Y sx, J Y ex, J Y cx, J Z xh, J Z xl, X tx, J Y 0]) := by
 go_enter Tryz.func75, Tryz.ntmps75
 go_wp2
 go_returns
 exact ⟨rfl, Gr.g⟩
theorem toWhole_e (p mn mx md : Int) (k : Nat) (sx ex cx xh xl sy ey cy yh yl : Int) (tx ty : Bool) (c : cx = 1) (c2 : decide (0 ≤ ex) = true) (w : World) :
  QR 75 #[O #[J Y p, J Y mn, J Y mx, J Y md, .func (.func k) #[] #[]], O #[J Y sx, J Y ex, J Y cx, J Z xh, J Z xl, X tx, J Y 0], O #[J Y sy, J Y ey, J Y cy, J Z yh, J Z yl, X ty, J Y 0]] w (O #[J Y sx, J Y ex, J Y 1, J Z xh, J Z xl, X tx, J Y 0]) := by
 subst c
 go_enter Tryz.func75, Tryz.ntmps75
 go_wp2
 go_returns
 exact ⟨rfl, Gr.g⟩
theorem toWhole_x (p mn mx md : Int) (k : Nat) (sx ex cx xh xl sy ey cy yh yl : Int) (tx ty : Bool) (dr m : Int) (c : cx = 1) (c2 : decide (0 ≤ ex) = false) (hn : wrap64 (-ex) = dr) (HR : KR 161 #[.func (.func k) #[] #[], J Y dr, J Y sx, O #[J Z xh, J Z xl], X false] (.tuple #[J Z m, X true])) (w : World) :
  QR 75 #[O #[J Y p, J Y mn, J Y mx, J Y md, .func (.func k) #[] #[]], O #[J Y sx, J Y ex, J Y cx, J Z xh, J Z xl, X tx, J Y 0], O #[J Y sy, J Y ey, J Y cy, J Z yh, J Z yl, X ty, J Y 0]] w (O #[J Y sx, J Y 0, J Y 1, J Z 0, J Z m, X tx, J Y 16]) := by
 subst c
 go_enter Tryz.func75, Tryz.ntmps75
 go_wp2_with (go_at_call 161; refine (HR.out _).mono ?_; rintro x w1 ⟨rfl, hg_w1⟩; obtain ⟨ax0, axz0, ax1, axz1, ax2, axz2, ax3, axz3, ax4, axz4, ax5, axz5, ax6, axz6⟩ := hg_w1.y7 (w.heap.size + 1) 0 1 2 3 4 5 6 (J Y sx) (J Y ex) (J Y 1) (J Z xh) (J Z xl) (X tx) (J Y 0); obtain ⟨ar0, arz0, ar1, arz1, ar2, arz2, ar3, arz3, ar4, arz4, ar5, arz5, ar6, arz6⟩ := hg_w1.y7 (w.heap.size + 1 + 1 + 1) 0 1 2 3 4 5 6 (J Y 0) (J Y 0) (J Y 0) (J Z 0) (J Z 0) (X false) (J Y 0); have hz1 := cell_size ar0)
 refine bodyPost_ret (v := O #[J Y sx, J Y 0, J Y 1, J Z 0, J Z m, X tx, J Y 16]) (by simp [results, Tryz.results75, go_sem, ar0, ar1, ar2, ar3, ar4, ar5, ar6]) rfl ⟨rfl, ?_⟩
 exact Gr.g
theorem toWhole_w (p mn mx md : Int) (k : Nat) (sx ex cx xh xl sy ey cy yh yl : Int) (tx ty : Bool) (dr m : Int) (c : cx = 1) (c2 : decide (0 ≤ ex) = false) (hn : wrap64 (-ex) = dr) (HR : KR 161 #[.func (.func k) #[] #[], J Y dr, J Y sx, O #[J Z xh, J Z xl], X false] (.tuple #[J Z m, X false])) (w : World) :
  QR 75 #[O #[J Y p, J Y mn, J Y mx, J Y md, .func (.func k) #[] #[]], O #[J Y sx, J Y ex, J Y cx, J Z xh, J Z xl, X tx, J Y 0], O #[J Y sy, J Y ey, J Y cy, J Z yh, J Z yl, X ty, J Y 0]] w (O #[J Y sx, J Y 0, J Y 1, J Z 0, J Z m, X tx, J Y 0]) := by
 subst c
 go_enter Tryz.func75, Tryz.ntmps75
 go_wp2_with (go_at_call 161; refine (HR.out _).mono ?_; rintro x w1 ⟨rfl, hg_w1⟩; obtain ⟨ax0, axz0, ax1, axz1, ax2, axz2, ax3, axz3, ax4, axz4, ax5, axz5, ax6, axz6⟩ := hg_w1.y7 (w.heap.size + 1) 0 1 2 3 4 5 6 (J Y sx) (J Y ex) (J Y 1) (J Z xh) (J Z xl) (X tx) (J Y 0); obtain ⟨ar0, arz0, ar1, arz1, ar2, arz2, ar3, arz3, ar4, arz4, ar5, arz5, ar6, arz6⟩ := hg_w1.y7 (w.heap.size + 1 + 1 + 1) 0 1 2 3 4 5 6 (J Y 0) (J Y 0) (J Y 0) (J Z 0) (J Z 0) (X false) (J Y 0); have hz1 := cell_size ar0)
 refine bodyPost_ret (v := O #[J Y sx, J Y 0, J Y 1, J Z 0, J Z m, X tx, J Y 0]) (by simp [results, Tryz.results75, go_sem, ar0, ar1, ar2, ar3, ar4, ar5, ar6]) rfl ⟨rfl, ?_⟩
 exact Gr.g
set_option maxRecDepth 1000000
theorem kindOf_1 (w : World) : QR 71 #[J Y 1] w (.tuple #[.iface 178 (O #[J Y (-9223372036854775808), J Y 9223372036854775807]), X true]) := by
 go_enter Tryz.func71, Tryz.ntmps71
 go_wp2
 go_returns
 exact ⟨rfl, Gr.g⟩
theorem turnedIf_1 (v m : Int) (h : IntKind.u64.wrap (-v) = m) (w : World) : QW 269 #[J Y 1, J Z v] w (J Z m) := by
 go_enter Tryz.func269, Tryz.ntmps269
 go_wp2
 go_returns
 exact ⟨rfl, rfl⟩
theorem turnedIf_0 (v : Int) (w : World) : QW 269 #[J Y 0, J Z v] w (J Z v) := by
 go_enter Tryz.func269, Tryz.ntmps269
 go_wp2
 go_returns
 exact ⟨rfl, rfl⟩
set_option maxRecDepth 1000000
theorem twL5b2 {P : Prop} (h : P := by
 have HE : KW 269 #[J Y 1, J Z 9223372036854775808] (J Z 9223372036854775808) := fun w => turnedIf_1 _ _ (by decide +kernel) w
 have u1 : IntKind.u64.wrap (-9223372036854775808) = 9223372036854775808 := by decide +kernel
 exact twL5b0) : P := h
theorem twL5b1 {P : Prop} (h : P := by
 go_enter Tryz.func271, Tryz.ntmps271
 go_wp2
 go_quiet (first | (go_at_call 269; refine Calls.quiet_of_same ((HE.out _).mono (fun e w' h => ⟨h.1, h.2.symm⟩))))
 all_goals go_wp2_with (go_at_call 269; with_reducible refine kw (HL.out _) ?_)
 all_goals go_returns
 all_goals exact ⟨rfl, gr_drewN Gr.g⟩) : P := h
theorem twL5b0 {P : Prop} (h : P := by
 go_enter Tryz.func271, Tryz.ntmps271
 go_wp2
 go_quiet (first | (go_at_call 269; refine Calls.quiet_of_same ((HE.out _).mono (fun e w' h => ⟨h.1, h.2.symm⟩))))
 all_goals go_wp2
 all_goals go_returns
 all_goals exact ⟨rfl, gr_drewN Gr.g⟩) : P := h
theorem gr_drewN {W w : World} (h : Gr W w) {n : Nat} : Gr W (w.drewN n) := by
 obtain ⟨⟨⟨a1, a2, a3⟩, b, c⟩, d⟩ := h
 exact ⟨⟨⟨a1, a2, a3⟩, b, c⟩, below_drewN d n⟩
attribute [local go_sem] undef in
theorem toWord_10_far (hi lo : Int) (c : (hi != 0) = true) (w : World) :
  QR 271 #[O #[J Y (-9223372036854775808), J Y 9223372036854775807], J Y 0, O #[J Z hi, J Z lo]] w (.tuple #[J Z 9223372036854775807, X false]) := by
 have HE : KW 269 #[J Y 0, J Z 9223372036854775807] (J Z 9223372036854775807) := fun w => turnedIf_0 _ w
 exact twL5b0
attribute [local go_sem] undef in
theorem toWord_10_big (hi lo : Int) (c : hi = 0) (c2 : decide (9223372036854775807 < lo) = true) (w : World) :
  QR 271 #[O #[J Y (-9223372036854775808), J Y 9223372036854775807], J Y 0, O #[J Z hi, J Z lo]] w (.tuple #[J Z 9223372036854775807, X false]) := by
 subst c
 have HE : KW 269 #[J Y 0, J Z 9223372036854775807] (J Z 9223372036854775807) := fun w => turnedIf_0 _ w
 exact twL5b0
attribute [local go_sem] undef in
theorem toWord_10_ok (hi lo : Int) (c : hi = 0) (c2 : decide (9223372036854775807 < lo) = false) (w : World) :
  QR 271 #[O #[J Y (-9223372036854775808), J Y 9223372036854775807], J Y 0, O #[J Z hi, J Z lo]] w (.tuple #[J Z lo, X true]) := by
 subst c
 have HE : KW 269 #[J Y 0, J Z 9223372036854775807] (J Z 9223372036854775807) := fun w => turnedIf_0 _ w
 have HL : KW 269 #[J Y 0, J Z lo] (J Z lo) := fun w => turnedIf_0 _ w
 exact twL5b1
attribute [local go_sem] undef in
theorem toWord_11_far (hi lo : Int) (c : (hi != 0) = true) (w : World) :
  QR 271 #[O #[J Y (-9223372036854775808), J Y 9223372036854775807], J Y 1, O #[J Z hi, J Z lo]] w (.tuple #[J Z 9223372036854775808, X false]) := by
 exact twL5b2
attribute [local go_sem] undef in
theorem toWord_11_big (hi lo : Int) (c : hi = 0) (c2 : decide (9223372036854775808 < lo) = true) (w : World) :
  QR 271 #[O #[J Y (-9223372036854775808), J Y 9223372036854775807], J Y 1, O #[J Z hi, J Z lo]] w (.tuple #[J Z 9223372036854775808, X false]) := by
 subst c
 exact twL5b2
attribute [local go_sem] undef in
theorem toWord_11_ok (hi lo r : Int) (c : hi = 0) (c2 : decide (9223372036854775808 < lo) = false) (hr : IntKind.u64.wrap (-lo) = r) (w : World) :
  QR 271 #[O #[J Y (-9223372036854775808), J Y 9223372036854775807], J Y 1, O #[J Z hi, J Z lo]] w (.tuple #[J Z r, X true]) := by
 subst c
 have HE : KW 269 #[J Y 1, J Z 9223372036854775808] (J Z 9223372036854775808) := fun w => turnedIf_1 _ _ (by decide +kernel) w
 have HL : KW 269 #[J Y 1, J Z lo] (J Z r) := fun w => turnedIf_1 _ _ hr w
 have u1 : IntKind.u64.wrap (-9223372036854775808) = 9223372036854775808 := by decide +kernel
 exact twL5b1
set_option maxRecDepth 1000000
theorem size_far (s e c mh ml fl : Int) (t : Bool) (h : decide (1 < c) = true) (w : World) :
  QR 76 #[O #[J Y s, J Y e, J Y c, J Z mh, J Z ml, X t, J Y fl]] w (O #[J Z 1, J Z 0]) := by
 go_enter Tryz.func76, Tryz.ntmps76
 go_wp2
 go_returns
 exact ⟨rfl, Gr.g⟩
theorem size_num (s e c mh ml fl k rh rl : Int) (t : Bool) (h : decide (1 < c) = false) (hk : min e 64 = k) (HS : KR 162 #[O #[J Z mh, J Z ml], J Y k] (O #[J Z rh, J Z rl])) (w : World) :
  QR 76 #[O #[J Y s, J Y e, J Y c, J Z mh, J Z ml, X t, J Y fl]] w (O #[J Z rh, J Z rl]) := by
 go_enter Tryz.func76, Tryz.ntmps76
 go_wp2_with (go_at_call 162; refine (HS.out _).mono ?_; rintro x w1 ⟨rfl, hg_w1⟩; obtain ⟨ar0, arz0, ar1, arz1⟩ := hg_w1.y2 (w.heap.size + 1) 0 1 (J Z 0) (J Z 0))
 refine bodyPost_ret (v := O #[J Z rh, J Z rl]) (by simp [results, Tryz.results76, go_sem, ar0, ar1]) rfl ⟨rfl, ?_⟩
 exact Gr.g
theorem to_1 (p mn mx mode f kind a sx ex cx xh xl os oe oc oh ol of rh rl z r : Int) (tx ot q : Bool) (hq : q = false ∧ 1 = r ∨ q = true ∧ of = r) (k : Nat) {w : World} (HS : Hid (∀ w', Gr w w' → QR 70 #[J Y f, J Y mode] w' (.tuple #[O #[J Y p, J Y mn, J Y mx, J Y mode, .func (.func k) #[] #[]], X true]))) (HK : KR 71 #[J Y kind] (.tuple #[.iface 178 (O #[J Y (-9223372036854775808), J Y 9223372036854775807]), X true])) (HF : KR 72 #[O #[J Y p, J Y mn, J Y mx], J Z a] (X true)) (HA : KR 73 #[O #[J Y p, J Y mn, J Y mx], J Z a] (O #[J Y sx, J Y ex, J Y cx, J Z xh, J Z xl, X tx, J Y 0])) (HC : KR 74 #[O #[J Y p, J Y mn, J Y mx, J Y mode, .func (.func k) #[] #[]], .func (.func 75) #[] #[], O #[J Y sx, J Y ex, J Y cx, J Z xh, J Z xl, X tx, J Y 0], O #[J Y sx, J Y ex, J Y cx, J Z xh, J Z xl, X tx, J Y 0]] (O #[J Y os, J Y oe, J Y oc, J Z oh, J Z ol, X ot, J Y of])) (HZ : KR 76 #[O #[J Y os, J Y oe, J Y oc, J Z oh, J Z ol, X ot, J Y of]] (O #[J Z rh, J Z rl])) (HT : KR 271 #[O #[J Y (-9223372036854775808), J Y 9223372036854775807], J Y os, O #[J Z rh, J Z rl]] (.tuple #[J Z z, X q])) :
  QR 23 #[J Y f, J Y mode, J Y kind, J Z a] w (O #[J Z z, J Y r]) := by
 rcases hq with ⟨rfl, rfl⟩ | ⟨rfl, rfl⟩
 all_goals
  have hnil : ∀ w, Sem.run Tryz.prog (nilAhead 371 178 (O #[J Y (-9223372036854775808), J Y 9223372036854775807]) "loop.example/s01330/impl.toWord") w = Result.ok (some false) w := fun w => by kernel_rfl
  go_enter Tryz.func23, Tryz.ntmps23
  go_upto_region 6 with (first
   | (go_at_call 70; refine (HS.out _ Gr.g).mono ?_; rintro x w1 ⟨rfl, hg_w1⟩; obtain ⟨kr0, krz0, kr1, krz1⟩ := hg_w1.y2 w.heap.size 0 1 (J Z 0) (J Y 0); have hz1 := cell_size kr0)
   | (go_at_call 71; refine (HK.out _).mono ?_; rintro x w2 ⟨rfl, hg_w2⟩; obtain ⟨lr0, lrz0, lr1, lrz1⟩ := hg_w2.y2 w.heap.size 0 1 (J Z 0) (J Y 0); obtain ⟨ls0, ls1, ls2, ls3, ls4⟩ := hg_w2.e5 w1.heap.size 0 1 2 3 4 (J Y p) (J Y mn) (J Y mx) (J Y mode) (.func (.func k) #[] #[]); have hz2 := cell_size lr0; have hy2 := cell_size ls0)
   | (go_at_call 72; refine (HF.out _).mono ?_; rintro x w3 ⟨rfl, hg_w3⟩; obtain ⟨nr0, nrz0, nr1, nrz1⟩ := hg_w3.y2 w.heap.size 0 1 (J Z 0) (J Y 0); obtain ⟨ns0, ns1, ns2, ns3, ns4⟩ := hg_w3.e5 w1.heap.size 0 1 2 3 4 (J Y p) (J Y mn) (J Y mx) (J Y mode) (.func (.func k) #[] #[]); have hz3 := cell_size nr0; have hy3 := cell_size ns0)
   | (go_at_call 73; refine (HA.out _).mono ?_; rintro x w4 ⟨rfl, hg_w4⟩; obtain ⟨pr0, prz0, pr1, prz1⟩ := hg_w4.y2 w.heap.size 0 1 (J Z 0) (J Y 0); obtain ⟨ps0, ps1, ps2, ps3, ps4⟩ := hg_w4.e5 w1.heap.size 0 1 2 3 4 (J Y p) (J Y mn) (J Y mx) (J Y mode) (.func (.func k) #[] #[]); have hz4 := cell_size pr0; have hy4 := cell_size ps0))
  obtain ⟨w5, hw5⟩ : ∃ w5, w4.alloc (.cells #[J Y sx, J Y ex, J Y cx, J Z xh, J Z xl, X tx, J Y 0] 122) = w5 := ⟨_, rfl⟩
  have hg_w5 : Gr w4 w5 := by rw [← hw5]; exact (Gr.refl _).alloc _ _
  have x0 : w5.cell? ⟨w4.heap.size, 0, none⟩ = some (J Y sx) := by rw [← hw5]; simp [go_sem]
  have xz0 : w5.frozen? ⟨w4.heap.size, 0, none⟩ = false := by rw [← hw5]; simp [go_sem]
  have x1 : w5.cell? ⟨w4.heap.size, 1, none⟩ = some (J Y ex) := by rw [← hw5]; simp [go_sem]
  have xz1 : w5.frozen? ⟨w4.heap.size, 1, none⟩ = false := by rw [← hw5]; simp [go_sem]
  have x2 : w5.cell? ⟨w4.heap.size, 2, none⟩ = some (J Y cx) := by rw [← hw5]; simp [go_sem]
  have xz2 : w5.frozen? ⟨w4.heap.size, 2, none⟩ = false := by rw [← hw5]; simp [go_sem]
  have x3 : w5.cell? ⟨w4.heap.size, 3, none⟩ = some (J Z xh) := by rw [← hw5]; simp [go_sem]
  have xz3 : w5.frozen? ⟨w4.heap.size, 3, none⟩ = false := by rw [← hw5]; simp [go_sem]
  have x4 : w5.cell? ⟨w4.heap.size, 4, none⟩ = some (J Z xl) := by rw [← hw5]; simp [go_sem]
  have xz4 : w5.frozen? ⟨w4.heap.size, 4, none⟩ = false := by rw [← hw5]; simp [go_sem]
  have x5 : w5.cell? ⟨w4.heap.size, 5, none⟩ = some (X tx) := by rw [← hw5]; simp [go_sem]
  have xz5 : w5.frozen? ⟨w4.heap.size, 5, none⟩ = false := by rw [← hw5]; simp [go_sem]
  have x6 : w5.cell? ⟨w4.heap.size, 6, none⟩ = some (J Y 0) := by rw [← hw5]; simp [go_sem]
  have xz6 : w5.frozen? ⟨w4.heap.size, 6, none⟩ = false := by rw [← hw5]; simp [go_sem]
  have hz5 : w4.heap.size < w5.heap.size := by rw [← hw5]; simp
  rw [hw5]
  clear hw5
  obtain ⟨rr0, rrz0, rr1, rrz1⟩ := hg_w5.y2 w.heap.size 0 1 (J Z 0) (J Y 0); obtain ⟨rs0, rs1, rs2, rs3, rs4⟩ := hg_w5.e5 w1.heap.size 0 1 2 3 4 (J Y p) (J Y mn) (J Y mx) (J Y mode) (.func (.func k) #[] #[])
  have hgw5 : Gr w w5 := Gr.g
  go_upto_region 7 with (go_at_call 74; refine (HC.out _).mono ?_; rintro x w6 ⟨rfl, hg_w6⟩; obtain ⟨tr0, trz0, tr1, trz1⟩ := hg_w6.y2 w.heap.size 0 1 (J Z 0) (J Y 0); obtain ⟨tx0, txz0, tx1, txz1, tx2, txz2, tx3, txz3, tx4, txz4, tx5, txz5, tx6, txz6⟩ := hg_w6.y7 w4.heap.size 0 1 2 3 4 5 6 (J Y sx) (J Y ex) (J Y cx) (J Z xh) (J Z xl) (X tx) (J Y 0); have hz6 := cell_size tx0)
  obtain ⟨w7, hw7⟩ : ∃ w7, ((((((w6.setCell ⟨w4.heap.size, 0, none⟩ (J Y os)).setCell ⟨w4.heap.size, 1, none⟩ (J Y oe)).setCell ⟨w4.heap.size, 2, none⟩ (J Y oc)).setCell ⟨w4.heap.size, 3, none⟩ (J Z oh)).setCell ⟨w4.heap.size, 4, none⟩ (J Z ol)).setCell ⟨w4.heap.size, 5, none⟩ (X ot)).setCell ⟨w4.heap.size, 6, none⟩ (J Y of) = w7 := ⟨_, rfl⟩
  have hgw6 : Gr w w6 := Gr.g
  have hlt : w.heap.size ≤ w4.heap.size := by omega
  have hgw7 : Gr w w7 := by
   rw [← hw7]
   exact (((((((hgw6.setCell (a := ⟨w4.heap.size, 0, none⟩) hlt _).setCell (a := ⟨w4.heap.size, 1, none⟩) hlt _).setCell (a := ⟨w4.heap.size, 2, none⟩) hlt _).setCell (a := ⟨w4.heap.size, 3, none⟩) hlt _).setCell (a := ⟨w4.heap.size, 4, none⟩) hlt _).setCell (a := ⟨w4.heap.size, 5, none⟩) hlt _).setCell (a := ⟨w4.heap.size, 6, none⟩) hlt _)
  have y0 : w7.cell? ⟨w4.heap.size, 0, none⟩ = some (J Y os) := by rw [← hw7]; exact kh
  have y1 : w7.cell? ⟨w4.heap.size, 1, none⟩ = some (J Y oe) := by rw [← hw7]; exact kh
  have y2 : w7.cell? ⟨w4.heap.size, 2, none⟩ = some (J Y oc) := by rw [← hw7]; exact kh
  have y3 : w7.cell? ⟨w4.heap.size, 3, none⟩ = some (J Z oh) := by rw [← hw7]; exact kh
  have y4 : w7.cell? ⟨w4.heap.size, 4, none⟩ = some (J Z ol) := by rw [← hw7]; exact kh
  have y5 : w7.cell? ⟨w4.heap.size, 5, none⟩ = some (X ot) := by rw [← hw7]; exact kh
  have y6 : w7.cell? ⟨w4.heap.size, 6, none⟩ = some (J Y of) := by rw [← hw7]; exact kh
  have yr0 : w7.cell? ⟨w.heap.size, 0, none⟩ = some (J Z 0) := by rw [← hw7]; exact kh
  have yrz0 : w7.frozen? ⟨w.heap.size, 0, none⟩ = false := by rw [← hw7]; exact kh
  have yr1 : w7.cell? ⟨w.heap.size, 1, none⟩ = some (J Y 0) := by rw [← hw7]; exact kh
  have yrz1 : w7.frozen? ⟨w.heap.size, 1, none⟩ = false := by rw [← hw7]; exact kh
  have hz7 : w4.heap.size < w7.heap.size := cell_size y0
  rw [hw7]
  clear hw7
  go_region_held3 (fun w' => w'.cell? ⟨w4.heap.size, 0, none⟩ = some (J Y os) ∧ w'.cell? ⟨w4.heap.size, 1, none⟩ = some (J Y oe) ∧ w'.cell? ⟨w4.heap.size, 2, none⟩ = some (J Y oc) ∧ w'.cell? ⟨w4.heap.size, 3, none⟩ = some (J Z oh) ∧ w'.cell? ⟨w4.heap.size, 4, none⟩ = some (J Z ol) ∧ w'.cell? ⟨w4.heap.size, 5, none⟩ = some (X ot) ∧ w'.cell? ⟨w4.heap.size, 6, none⟩ = some (J Y of))
   ((go_split_ands; (repeat' apply And.intro) <;> exact kh))
   (first
    | (go_at_call 76; refine (HZ.out _).mono ?_; rintro x w8 ⟨rfl, hg_w8⟩; obtain ⟨vr0, vrz0, vr1, vrz1⟩ := hg_w8.y2 w.heap.size 0 1 (J Z 0) (J Y 0))
    | (go_at_call 271; refine (HT.out _).mono ?_; rintro x w9 ⟨rfl, hg_w9⟩; obtain ⟨zr0, zrz0, zr1, zrz1⟩ := hg_w9.y2 w.heap.size 0 1 (J Z 0) (J Y 0); have zx6 := hg_w9.e1 w4.heap.size 6 (J Y of)))
  all_goals (try go_split_ands)
  all_goals go_wp2
  all_goals
   first | refine bodyPost_ret (v := O #[J Z z, J Y 1]) (by simp [results, Tryz.results23, go_sem, zr0, zr1]) rfl ⟨rfl, ?_⟩ | refine bodyPost_ret (v := O #[J Z z, J Y of]) (by simp [results, Tryz.results23, go_sem, zr0, zr1]) rfl ⟨rfl, ?_⟩
   exact Gr.g
end Go.Proofs.YtnbbfeknbfohhaaGreatDoor
