import Derived.Test.YtnbbfeknbfohhaaGreatDoorB5
import Derived.Deep.DeepCutAuto
set_option linter.unusedVariables false
set_option linter.unusedSimpArgs false
set_option maxRecDepth 1000000
set_option maxHeartbeats 40000000
open Go.Value renaming int → J, agg → O, bool → X
open Go.IntKind renaming i64 → Y, u64 → Z
namespace Go.Proofs.YtnbbfeknbfohhaaGreatDoor
open Go.RowKit
theorem twB22 {P : Prop} (h : P := by
 obtain ⟨rfl, rfl, rfl, ⟨qg, qx4, qy4, qo0, qoz0, qo1, qoz1, qo2, qoz2, qo3, qoz3, qo4, qoz4, qo5, qoz5, qo6, qoz6, qr0, qrz0, qr1, qrz1, qr2, qrz2, qr3, qrz3, qr4, qrz4, qr5, qrz5, qr6, qrz6⟩⟩ := hcut
 have hzo := cell_size qo0
 have hzr := cell_size qr0
 go_wp2
 refine bodyPost_ret (v := O #[J Y zs, J Y ze, J Y 4, J Z 0, J Z 0, X false, J Y 0]) (by simp [results, Tryz.results174, go_sem, qr0, qr1, qr2, qr3, qr4, qr5, qr6]) rfl ⟨rfl, ?_⟩
 exact Gr.g) : P := h
theorem twB21 {P : Prop} (h : P := by
 obtain ⟨rfl, rfl, rfl, ⟨qg, qx4, qy4, qo0, qoz0, qo1, qoz1, qo2, qoz2, qo3, qoz3, qo4, qoz4, qo5, qoz5, qo6, qoz6, qr0, qrz0, qr1, qrz1, qr2, qrz2, qr3, qrz3, qr4, qrz4, qr5, qrz5, qr6, qrz6⟩⟩ := hcut
 have hzo := cell_size qo0
 have hzr := cell_size qr0
 go_wp2
 refine bodyPost_ret (v := O #[J Y zs, J Y ze, J Y 2, J Z 0, J Z 0, X false, J Y 0]) (by simp [results, Tryz.results174, go_sem, qr0, qr1, qr2, qr3, qr4, qr5, qr6]) rfl ⟨rfl, ?_⟩
 exact Gr.g) : P := h
theorem twB20 {P : Prop} (h : P := by
 obtain ⟨rfl, rfl, rfl, ⟨qg, qx4, qy4, qo0, qoz0, qo1, qoz1, qo2, qoz2, qo3, qoz3, qo4, qoz4, qo5, qoz5, qo6, qoz6, qr0, qrz0, qr1, qrz1, qr2, qrz2, qr3, qrz3, qr4, qrz4, qr5, qrz5, qr6, qrz6⟩⟩ := hcut
 have hzo := cell_size qo0
 have hzr := cell_size qr0
 go_wp2
 refine bodyPost_ret (v := O #[J Y zs, J Y ze, J Y 0, J Z 0, J Z 0, X false, J Y 0]) (by simp [results, Tryz.results174, go_sem, qr0, qr1, qr2, qr3, qr4, qr5, qr6]) rfl ⟨rfl, ?_⟩
 exact Gr.g) : P := h
structure ProdAt (w wx : World) (o : Nat) (xl yl zs ze : Int) : Prop where
 g : Gr w wx := by exact kr
 x4 : wx.cell? ⟨w.heap.size + 1, 4, none⟩ = some (J Z xl) := by exact kl
 y4 : wx.cell? ⟨w.heap.size + 1 + 1, 4, none⟩ = some (J Z yl) := by exact kl
 o0 : wx.cell? ⟨o, 0, none⟩ = some (J Y zs) := by exact kl
 oz0 : wx.frozen? ⟨o, 0, none⟩ = false := by exact kl
 o1 : wx.cell? ⟨o, 1, none⟩ = some (J Y ze) := by exact kl
 oz1 : wx.frozen? ⟨o, 1, none⟩ = false := by exact kl
 o2 : wx.cell? ⟨o, 2, none⟩ = some (J Y 1) := by exact kl
 oz2 : wx.frozen? ⟨o, 2, none⟩ = false := by exact kl
 o3 : wx.cell? ⟨o, 3, none⟩ = some (J Z 0) := by exact kl
 oz3 : wx.frozen? ⟨o, 3, none⟩ = false := by exact kl
 o4 : wx.cell? ⟨o, 4, none⟩ = some (J Z 0) := by exact kl
 oz4 : wx.frozen? ⟨o, 4, none⟩ = false := by exact kl
 o5 : wx.cell? ⟨o, 5, none⟩ = some (X false) := by exact kl
 oz5 : wx.frozen? ⟨o, 5, none⟩ = false := by exact kl
 o6 : wx.cell? ⟨o, 6, none⟩ = some (J Y 0) := by exact kl
 oz6 : wx.frozen? ⟨o, 6, none⟩ = false := by exact kl
 r0 : wx.cell? ⟨w.heap.size + 1 + 1 + 1, 0, none⟩ = some (J Y 0) := by exact kl
 rz0 : wx.frozen? ⟨w.heap.size + 1 + 1 + 1, 0, none⟩ = false := by exact kl
 r1 : wx.cell? ⟨w.heap.size + 1 + 1 + 1, 1, none⟩ = some (J Y 0) := by exact kl
 rz1 : wx.frozen? ⟨w.heap.size + 1 + 1 + 1, 1, none⟩ = false := by exact kl
 r2 : wx.cell? ⟨w.heap.size + 1 + 1 + 1, 2, none⟩ = some (J Y 0) := by exact kl
 rz2 : wx.frozen? ⟨w.heap.size + 1 + 1 + 1, 2, none⟩ = false := by exact kl
 r3 : wx.cell? ⟨w.heap.size + 1 + 1 + 1, 3, none⟩ = some (J Z 0) := by exact kl
 rz3 : wx.frozen? ⟨w.heap.size + 1 + 1 + 1, 3, none⟩ = false := by exact kl
 r4 : wx.cell? ⟨w.heap.size + 1 + 1 + 1, 4, none⟩ = some (J Z 0) := by exact kl
 rz4 : wx.frozen? ⟨w.heap.size + 1 + 1 + 1, 4, none⟩ = false := by exact kl
 r5 : wx.cell? ⟨w.heap.size + 1 + 1 + 1, 5, none⟩ = some (X false) := by exact kl
 rz5 : wx.frozen? ⟨w.heap.size + 1 + 1 + 1, 5, none⟩ = false := by exact kl
 r6 : wx.cell? ⟨w.heap.size + 1 + 1 + 1, 6, none⟩ = some (J Y 0) := by exact kl
 rz6 : wx.frozen? ⟨w.heap.size + 1 + 1 + 1, 6, none⟩ = false := by exact kl
theorem product_00 (p mn mx md : Int) (k : Nat) (sx ex xh xl sy ey yh yl : Int) (tx ty : Bool) (zs ze : Int) (HT : KR 218 #[O #[J Y sx, J Y ex], O #[J Y sy, J Y ey]] (O #[J Y zs, J Y ze])) (w : World) :
  QR 174 #[O #[J Y p, J Y mn, J Y mx, J Y md, .func (.func k) #[] #[]], O #[J Y sx, J Y ex, J Y 0, J Z xh, J Z xl, X tx, J Y 0], O #[J Y sy, J Y ey, J Y 0, J Z yh, J Z yl, X ty, J Y 0]] w (O #[J Y zs, J Y ze, J Y 0, J Z 0, J Z 0, X false, J Y 0]) := by
 go_enter Tryz.func174, Tryz.ntmps174
 go_wp2_with (go_at_call 218; refine (HT.out _).mono ?_; rintro e w1 ⟨rfl, hg_w1⟩; obtain ⟨ax2, ax4⟩ := hg_w1.e2 (w.heap.size + 1) 2 4 (J Y 0) (J Z xl); obtain ⟨ay2, ay4⟩ := hg_w1.e2 (w.heap.size + 1 + 1) 2 4 (J Y 0) (J Z yl); obtain ⟨ar0, arz0, ar1, arz1, ar2, arz2, ar3, arz3, ar4, arz4, ar5, arz5, ar6, arz6⟩ := hg_w1.y7 (w.heap.size + 1 + 1 + 1) 0 1 2 3 4 5 6 (J Y 0) (J Y 0) (J Y 0) (J Z 0) (J Z 0) (X false) (J Y 0); have hz1 := cell_size ar0)
 go_cut [7, 8, 9] (fun s7 s8 s9 wx => s7 = .pointer (some ⟨w1.heap.size, 0, none⟩) ∧ s8 = J Y 0 ∧ s9 = J Y 0 ∧ ProdAt w wx w1.heap.size xl yl zs ze)
 case first =>
  go_region_held3 (fun w' => w'.cell? ⟨w.heap.size + 1, 2, none⟩ = some (J Y 0) ∧ w'.cell? ⟨w.heap.size + 1 + 1, 2, none⟩ = some (J Y 0))
   ((go_split_ands; (repeat' apply And.intro) <;> exact kh))
   (fail)
  all_goals (go_wp2; go_meet)
  all_goals exact ⟨rfl, rfl, rfl, {}⟩
 case rest =>
  exact twB20
theorem product_01 (p mn mx md : Int) (k : Nat) (sx ex xh xl sy ey yh yl : Int) (tx ty : Bool) (zs ze : Int) (HT : KR 218 #[O #[J Y sx, J Y ex], O #[J Y sy, J Y ey]] (O #[J Y zs, J Y ze])) (w : World) :
  QR 174 #[O #[J Y p, J Y mn, J Y mx, J Y md, .func (.func k) #[] #[]], O #[J Y sx, J Y ex, J Y 0, J Z xh, J Z xl, X tx, J Y 0], O #[J Y sy, J Y ey, J Y 1, J Z yh, J Z yl, X ty, J Y 0]] w (O #[J Y zs, J Y ze, J Y 0, J Z 0, J Z 0, X false, J Y 0]) := by
 go_enter Tryz.func174, Tryz.ntmps174
 go_wp2_with (go_at_call 218; refine (HT.out _).mono ?_; rintro e w1 ⟨rfl, hg_w1⟩; obtain ⟨ax2, ax4⟩ := hg_w1.e2 (w.heap.size + 1) 2 4 (J Y 0) (J Z xl); obtain ⟨ay2, ay4⟩ := hg_w1.e2 (w.heap.size + 1 + 1) 2 4 (J Y 1) (J Z yl); obtain ⟨ar0, arz0, ar1, arz1, ar2, arz2, ar3, arz3, ar4, arz4, ar5, arz5, ar6, arz6⟩ := hg_w1.y7 (w.heap.size + 1 + 1 + 1) 0 1 2 3 4 5 6 (J Y 0) (J Y 0) (J Y 0) (J Z 0) (J Z 0) (X false) (J Y 0); have hz1 := cell_size ar0)
 go_cut [7, 8, 9] (fun s7 s8 s9 wx => s7 = .pointer (some ⟨w1.heap.size, 0, none⟩) ∧ s8 = J Y 0 ∧ s9 = J Y 1 ∧ ProdAt w wx w1.heap.size xl yl zs ze)
 case first =>
  go_region_held3 (fun w' => w'.cell? ⟨w.heap.size + 1, 2, none⟩ = some (J Y 0) ∧ w'.cell? ⟨w.heap.size + 1 + 1, 2, none⟩ = some (J Y 1))
   ((go_split_ands; (repeat' apply And.intro) <;> exact kh))
   (fail)
  all_goals (go_wp2; go_meet)
  all_goals exact ⟨rfl, rfl, rfl, {}⟩
 case rest =>
  exact twB20
theorem product_02 (p mn mx md : Int) (k : Nat) (sx ex xh xl sy ey yh yl : Int) (tx ty : Bool) (zs ze : Int) (HT : KR 218 #[O #[J Y sx, J Y ex], O #[J Y sy, J Y ey]] (O #[J Y zs, J Y ze])) (w : World) :
  QR 174 #[O #[J Y p, J Y mn, J Y mx, J Y md, .func (.func k) #[] #[]], O #[J Y sx, J Y ex, J Y 0, J Z xh, J Z xl, X tx, J Y 0], O #[J Y sy, J Y ey, J Y 2, J Z yh, J Z yl, X ty, J Y 0]] w (O #[J Y zs, J Y ze, J Y 4, J Z 0, J Z 0, X false, J Y 0]) := by
 go_enter Tryz.func174, Tryz.ntmps174
 go_wp2_with (go_at_call 218; refine (HT.out _).mono ?_; rintro e w1 ⟨rfl, hg_w1⟩; obtain ⟨ax2, ax4⟩ := hg_w1.e2 (w.heap.size + 1) 2 4 (J Y 0) (J Z xl); obtain ⟨ay2, ay4⟩ := hg_w1.e2 (w.heap.size + 1 + 1) 2 4 (J Y 2) (J Z yl); obtain ⟨ar0, arz0, ar1, arz1, ar2, arz2, ar3, arz3, ar4, arz4, ar5, arz5, ar6, arz6⟩ := hg_w1.y7 (w.heap.size + 1 + 1 + 1) 0 1 2 3 4 5 6 (J Y 0) (J Y 0) (J Y 0) (J Z 0) (J Z 0) (X false) (J Y 0); have hz1 := cell_size ar0)
 go_cut [7, 8, 9] (fun s7 s8 s9 wx => s7 = .pointer (some ⟨w1.heap.size, 0, none⟩) ∧ s8 = J Y 0 ∧ s9 = J Y 2 ∧ ProdAt w wx w1.heap.size xl yl zs ze)
 case first =>
  go_region_held3 (fun w' => w'.cell? ⟨w.heap.size + 1, 2, none⟩ = some (J Y 0) ∧ w'.cell? ⟨w.heap.size + 1 + 1, 2, none⟩ = some (J Y 2))
   ((go_split_ands; (repeat' apply And.intro) <;> exact kh))
   (fail)
  all_goals (go_wp2; go_meet)
  all_goals exact ⟨rfl, rfl, rfl, {}⟩
 case rest =>
  exact twB22
theorem product_10 (p mn mx md : Int) (k : Nat) (sx ex xh xl sy ey yh yl : Int) (tx ty : Bool) (zs ze : Int) (HT : KR 218 #[O #[J Y sx, J Y ex], O #[J Y sy, J Y ey]] (O #[J Y zs, J Y ze])) (w : World) :
  QR 174 #[O #[J Y p, J Y mn, J Y mx, J Y md, .func (.func k) #[] #[]], O #[J Y sx, J Y ex, J Y 1, J Z xh, J Z xl, X tx, J Y 0], O #[J Y sy, J Y ey, J Y 0, J Z yh, J Z yl, X ty, J Y 0]] w (O #[J Y zs, J Y ze, J Y 0, J Z 0, J Z 0, X false, J Y 0]) := by
 go_enter Tryz.func174, Tryz.ntmps174
 go_wp2_with (go_at_call 218; refine (HT.out _).mono ?_; rintro e w1 ⟨rfl, hg_w1⟩; obtain ⟨ax2, ax4⟩ := hg_w1.e2 (w.heap.size + 1) 2 4 (J Y 1) (J Z xl); obtain ⟨ay2, ay4⟩ := hg_w1.e2 (w.heap.size + 1 + 1) 2 4 (J Y 0) (J Z yl); obtain ⟨ar0, arz0, ar1, arz1, ar2, arz2, ar3, arz3, ar4, arz4, ar5, arz5, ar6, arz6⟩ := hg_w1.y7 (w.heap.size + 1 + 1 + 1) 0 1 2 3 4 5 6 (J Y 0) (J Y 0) (J Y 0) (J Z 0) (J Z 0) (X false) (J Y 0); have hz1 := cell_size ar0)
 go_cut [7, 8, 9] (fun s7 s8 s9 wx => s7 = .pointer (some ⟨w1.heap.size, 0, none⟩) ∧ s8 = J Y 0 ∧ s9 = J Y 1 ∧ ProdAt w wx w1.heap.size xl yl zs ze)
 case first =>
  go_region_held3 (fun w' => w'.cell? ⟨w.heap.size + 1, 2, none⟩ = some (J Y 1) ∧ w'.cell? ⟨w.heap.size + 1 + 1, 2, none⟩ = some (J Y 0))
   ((go_split_ands; (repeat' apply And.intro) <;> exact kh))
   (fail)
  all_goals (go_wp2; go_meet)
  all_goals exact ⟨rfl, rfl, rfl, {}⟩
 case rest =>
  exact twB20
theorem product_11 (p mn mx md : Int) (k : Nat) (sx ex xh xl sy ey yh yl : Int) (tx ty : Bool) (zs ze : Int) (HT : KR 218 #[O #[J Y sx, J Y ex], O #[J Y sy, J Y ey]] (O #[J Y zs, J Y ze])) (mh ml : Int) (HM : KR 193 #[J Z xl, J Z yl] (O #[J Z mh, J Z ml])) (w : World) :
  QR 174 #[O #[J Y p, J Y mn, J Y mx, J Y md, .func (.func k) #[] #[]], O #[J Y sx, J Y ex, J Y 1, J Z xh, J Z xl, X tx, J Y 0], O #[J Y sy, J Y ey, J Y 1, J Z yh, J Z yl, X ty, J Y 0]] w (O #[J Y zs, J Y ze, J Y 1, J Z mh, J Z ml, X false, J Y 0]) := by
 go_enter Tryz.func174, Tryz.ntmps174
 go_wp2_with (go_at_call 218; refine (HT.out _).mono ?_; rintro e w1 ⟨rfl, hg_w1⟩; obtain ⟨ax2, ax4⟩ := hg_w1.e2 (w.heap.size + 1) 2 4 (J Y 1) (J Z xl); obtain ⟨ay2, ay4⟩ := hg_w1.e2 (w.heap.size + 1 + 1) 2 4 (J Y 1) (J Z yl); obtain ⟨ar0, arz0, ar1, arz1, ar2, arz2, ar3, arz3, ar4, arz4, ar5, arz5, ar6, arz6⟩ := hg_w1.y7 (w.heap.size + 1 + 1 + 1) 0 1 2 3 4 5 6 (J Y 0) (J Y 0) (J Y 0) (J Z 0) (J Z 0) (X false) (J Y 0); have hz1 := cell_size ar0)
 go_cut [7, 8, 9] (fun s7 s8 s9 wx => s7 = .pointer (some ⟨w1.heap.size, 0, none⟩) ∧ s8 = J Y 1 ∧ s9 = J Y 1 ∧ ProdAt w wx w1.heap.size xl yl zs ze)
 case first =>
  go_region_held3 (fun w' => w'.cell? ⟨w.heap.size + 1, 2, none⟩ = some (J Y 1) ∧ w'.cell? ⟨w.heap.size + 1 + 1, 2, none⟩ = some (J Y 1))
   ((go_split_ands; (repeat' apply And.intro) <;> exact kh))
   (fail)
  all_goals (go_wp2; go_meet)
  all_goals exact ⟨rfl, rfl, rfl, {}⟩
 case rest =>
  obtain ⟨rfl, rfl, rfl, ⟨qg, qx4, qy4, qo0, qoz0, qo1, qoz1, qo2, qoz2, qo3, qoz3, qo4, qoz4, qo5, qoz5, qo6, qoz6, qr0, qrz0, qr1, qrz1, qr2, qrz2, qr3, qrz3, qr4, qrz4, qr5, qrz5, qr6, qrz6⟩⟩ := hcut
  have hzo := cell_size qo0
  have hzr := cell_size qr0
  go_wp2_with (go_at_call 193; refine (HM.out _).mono ?_; rintro e w2 ⟨rfl, hg_w2⟩; obtain ⟨br0, brz0, br1, brz1, br2, brz2, br3, brz3, br4, brz4, br5, brz5, br6, brz6⟩ := hg_w2.y7 (w.heap.size + 1 + 1 + 1) 0 1 2 3 4 5 6 (J Y 0) (J Y 0) (J Y 0) (J Z 0) (J Z 0) (X false) (J Y 0); obtain ⟨bo0, boz0, bo1, boz1, bo2, boz2, bo3, boz3, bo4, boz4, bo5, boz5, bo6, boz6⟩ := hg_w2.y7 w1.heap.size 0 1 2 3 4 5 6 (J Y zs) (J Y ze) (J Y 1) (J Z 0) (J Z 0) (X false) (J Y 0); have hz2 := cell_size br0; have hz3 := cell_size bo0)
  refine bodyPost_ret (v := O #[J Y zs, J Y ze, J Y 1, J Z mh, J Z ml, X false, J Y 0]) (by simp [results, Tryz.results174, go_sem, br0, br1, br2, br3, br4, br5, br6]) rfl ⟨rfl, ?_⟩
  exact Gr.g
theorem product_12 (p mn mx md : Int) (k : Nat) (sx ex xh xl sy ey yh yl : Int) (tx ty : Bool) (zs ze : Int) (HT : KR 218 #[O #[J Y sx, J Y ex], O #[J Y sy, J Y ey]] (O #[J Y zs, J Y ze])) (w : World) :
  QR 174 #[O #[J Y p, J Y mn, J Y mx, J Y md, .func (.func k) #[] #[]], O #[J Y sx, J Y ex, J Y 1, J Z xh, J Z xl, X tx, J Y 0], O #[J Y sy, J Y ey, J Y 2, J Z yh, J Z yl, X ty, J Y 0]] w (O #[J Y zs, J Y ze, J Y 2, J Z 0, J Z 0, X false, J Y 0]) := by
 go_enter Tryz.func174, Tryz.ntmps174
 go_wp2_with (go_at_call 218; refine (HT.out _).mono ?_; rintro e w1 ⟨rfl, hg_w1⟩; obtain ⟨ax2, ax4⟩ := hg_w1.e2 (w.heap.size + 1) 2 4 (J Y 1) (J Z xl); obtain ⟨ay2, ay4⟩ := hg_w1.e2 (w.heap.size + 1 + 1) 2 4 (J Y 2) (J Z yl); obtain ⟨ar0, arz0, ar1, arz1, ar2, arz2, ar3, arz3, ar4, arz4, ar5, arz5, ar6, arz6⟩ := hg_w1.y7 (w.heap.size + 1 + 1 + 1) 0 1 2 3 4 5 6 (J Y 0) (J Y 0) (J Y 0) (J Z 0) (J Z 0) (X false) (J Y 0); have hz1 := cell_size ar0)
 go_cut [7, 8, 9] (fun s7 s8 s9 wx => s7 = .pointer (some ⟨w1.heap.size, 0, none⟩) ∧ s8 = J Y 1 ∧ s9 = J Y 2 ∧ ProdAt w wx w1.heap.size xl yl zs ze)
 case first =>
  go_region_held3 (fun w' => w'.cell? ⟨w.heap.size + 1, 2, none⟩ = some (J Y 1) ∧ w'.cell? ⟨w.heap.size + 1 + 1, 2, none⟩ = some (J Y 2))
   ((go_split_ands; (repeat' apply And.intro) <;> exact kh))
   (fail)
  all_goals (go_wp2; go_meet)
  all_goals exact ⟨rfl, rfl, rfl, {}⟩
 case rest =>
  exact twB21
theorem product_20 (p mn mx md : Int) (k : Nat) (sx ex xh xl sy ey yh yl : Int) (tx ty : Bool) (zs ze : Int) (HT : KR 218 #[O #[J Y sx, J Y ex], O #[J Y sy, J Y ey]] (O #[J Y zs, J Y ze])) (w : World) :
  QR 174 #[O #[J Y p, J Y mn, J Y mx, J Y md, .func (.func k) #[] #[]], O #[J Y sx, J Y ex, J Y 2, J Z xh, J Z xl, X tx, J Y 0], O #[J Y sy, J Y ey, J Y 0, J Z yh, J Z yl, X ty, J Y 0]] w (O #[J Y zs, J Y ze, J Y 4, J Z 0, J Z 0, X false, J Y 0]) := by
 go_enter Tryz.func174, Tryz.ntmps174
 go_wp2_with (go_at_call 218; refine (HT.out _).mono ?_; rintro e w1 ⟨rfl, hg_w1⟩; obtain ⟨ax2, ax4⟩ := hg_w1.e2 (w.heap.size + 1) 2 4 (J Y 2) (J Z xl); obtain ⟨ay2, ay4⟩ := hg_w1.e2 (w.heap.size + 1 + 1) 2 4 (J Y 0) (J Z yl); obtain ⟨ar0, arz0, ar1, arz1, ar2, arz2, ar3, arz3, ar4, arz4, ar5, arz5, ar6, arz6⟩ := hg_w1.y7 (w.heap.size + 1 + 1 + 1) 0 1 2 3 4 5 6 (J Y 0) (J Y 0) (J Y 0) (J Z 0) (J Z 0) (X false) (J Y 0); have hz1 := cell_size ar0)
 go_cut [7, 8, 9] (fun s7 s8 s9 wx => s7 = .pointer (some ⟨w1.heap.size, 0, none⟩) ∧ s8 = J Y 0 ∧ s9 = J Y 2 ∧ ProdAt w wx w1.heap.size xl yl zs ze)
 case first =>
  go_region_held3 (fun w' => w'.cell? ⟨w.heap.size + 1, 2, none⟩ = some (J Y 2) ∧ w'.cell? ⟨w.heap.size + 1 + 1, 2, none⟩ = some (J Y 0))
   ((go_split_ands; (repeat' apply And.intro) <;> exact kh))
   (fail)
  all_goals (go_wp2; go_meet)
  all_goals exact ⟨rfl, rfl, rfl, {}⟩
 case rest =>
  exact twB22
theorem product_21 (p mn mx md : Int) (k : Nat) (sx ex xh xl sy ey yh yl : Int) (tx ty : Bool) (zs ze : Int) (HT : KR 218 #[O #[J Y sx, J Y ex], O #[J Y sy, J Y ey]] (O #[J Y zs, J Y ze])) (w : World) :
  QR 174 #[O #[J Y p, J Y mn, J Y mx, J Y md, .func (.func k) #[] #[]], O #[J Y sx, J Y ex, J Y 2, J Z xh, J Z xl, X tx, J Y 0], O #[J Y sy, J Y ey, J Y 1, J Z yh, J Z yl, X ty, J Y 0]] w (O #[J Y zs, J Y ze, J Y 2, J Z 0, J Z 0, X false, J Y 0]) := by
 go_enter Tryz.func174, Tryz.ntmps174
 go_wp2_with (go_at_call 218; refine (HT.out _).mono ?_; rintro e w1 ⟨rfl, hg_w1⟩; obtain ⟨ax2, ax4⟩ := hg_w1.e2 (w.heap.size + 1) 2 4 (J Y 2) (J Z xl); obtain ⟨ay2, ay4⟩ := hg_w1.e2 (w.heap.size + 1 + 1) 2 4 (J Y 1) (J Z yl); obtain ⟨ar0, arz0, ar1, arz1, ar2, arz2, ar3, arz3, ar4, arz4, ar5, arz5, ar6, arz6⟩ := hg_w1.y7 (w.heap.size + 1 + 1 + 1) 0 1 2 3 4 5 6 (J Y 0) (J Y 0) (J Y 0) (J Z 0) (J Z 0) (X false) (J Y 0); have hz1 := cell_size ar0)
 go_cut [7, 8, 9] (fun s7 s8 s9 wx => s7 = .pointer (some ⟨w1.heap.size, 0, none⟩) ∧ s8 = J Y 1 ∧ s9 = J Y 2 ∧ ProdAt w wx w1.heap.size xl yl zs ze)
 case first =>
  go_region_held3 (fun w' => w'.cell? ⟨w.heap.size + 1, 2, none⟩ = some (J Y 2) ∧ w'.cell? ⟨w.heap.size + 1 + 1, 2, none⟩ = some (J Y 1))
   ((go_split_ands; (repeat' apply And.intro) <;> exact kh))
   (fail)
  all_goals (go_wp2; go_meet)
  all_goals exact ⟨rfl, rfl, rfl, {}⟩
 case rest =>
  exact twB21
theorem product_22 (p mn mx md : Int) (k : Nat) (sx ex xh xl sy ey yh yl : Int) (tx ty : Bool) (zs ze : Int) (HT : KR 218 #[O #[J Y sx, J Y ex], O #[J Y sy, J Y ey]] (O #[J Y zs, J Y ze])) (w : World) :
  QR 174 #[O #[J Y p, J Y mn, J Y mx, J Y md, .func (.func k) #[] #[]], O #[J Y sx, J Y ex, J Y 2, J Z xh, J Z xl, X tx, J Y 0], O #[J Y sy, J Y ey, J Y 2, J Z yh, J Z yl, X ty, J Y 0]] w (O #[J Y zs, J Y ze, J Y 2, J Z 0, J Z 0, X false, J Y 0]) := by
 go_enter Tryz.func174, Tryz.ntmps174
 go_wp2_with (go_at_call 218; refine (HT.out _).mono ?_; rintro e w1 ⟨rfl, hg_w1⟩; obtain ⟨ax2, ax4⟩ := hg_w1.e2 (w.heap.size + 1) 2 4 (J Y 2) (J Z xl); obtain ⟨ay2, ay4⟩ := hg_w1.e2 (w.heap.size + 1 + 1) 2 4 (J Y 2) (J Z yl); obtain ⟨ar0, arz0, ar1, arz1, ar2, arz2, ar3, arz3, ar4, arz4, ar5, arz5, ar6, arz6⟩ := hg_w1.y7 (w.heap.size + 1 + 1 + 1) 0 1 2 3 4 5 6 (J Y 0) (J Y 0) (J Y 0) (J Z 0) (J Z 0) (X false) (J Y 0); have hz1 := cell_size ar0)
 go_cut [7, 8, 9] (fun s7 s8 s9 wx => s7 = .pointer (some ⟨w1.heap.size, 0, none⟩) ∧ s8 = J Y 2 ∧ s9 = J Y 2 ∧ ProdAt w wx w1.heap.size xl yl zs ze)
 case first =>
  go_region_held3 (fun w' => w'.cell? ⟨w.heap.size + 1, 2, none⟩ = some (J Y 2) ∧ w'.cell? ⟨w.heap.size + 1 + 1, 2, none⟩ = some (J Y 2))
   ((go_split_ands; (repeat' apply And.intro) <;> exact kh))
   (fail)
  all_goals (go_wp2; go_meet)
  all_goals exact ⟨rfl, rfl, rfl, {}⟩
 case rest =>
  exact twB21
set_option maxRecDepth 1000000
theorem sum_gt (p mn mx md : Int) (k : Nat) (sx ex cx xh xl sy ey cy yh yl : Int) (tx ty : Bool) (h : cy < cx) (w : World) :
  QR 169 #[O #[J Y p, J Y mn, J Y mx, J Y md, .func (.func k) #[] #[]], O #[J Y sx, J Y ex, J Y cx, J Z xh, J Z xl, X tx, J Y 0], O #[J Y sy, J Y ey, J Y cy, J Z yh, J Z yl, X ty, J Y 0]] w (O #[J Y sx, J Y ex, J Y cx, J Z xh, J Z xl, X tx, J Y 0]) := by
 go_enter Tryz.func169, Tryz.ntmps169
 go_wp2
 go_returns
 exact ⟨rfl, Gr.g⟩
theorem sum_lt (p mn mx md : Int) (k : Nat) (sx ex cx xh xl sy ey cy yh yl : Int) (tx ty : Bool) (h : cx < cy) (w : World) :
  QR 169 #[O #[J Y p, J Y mn, J Y mx, J Y md, .func (.func k) #[] #[]], O #[J Y sx, J Y ex, J Y cx, J Z xh, J Z xl, X tx, J Y 0], O #[J Y sy, J Y ey, J Y cy, J Z yh, J Z yl, X ty, J Y 0]] w (O #[J Y sy, J Y ey, J Y cy, J Z yh, J Z yl, X ty, J Y 0]) := by
 go_enter Tryz.func169, Tryz.ntmps169
 go_wp2
 go_returns
 exact ⟨rfl, Gr.g⟩
theorem sum_sg (p mn mx md : Int) (k : Nat) (sx ex cx xh xl sy ey cy yh yl : Int) (tx ty : Bool) (h1 : cx = cy) (h2 : (cx == 1) = false) (h3 : sx = sy) (w : World) :
  QR 169 #[O #[J Y p, J Y mn, J Y mx, J Y md, .func (.func k) #[] #[]], O #[J Y sx, J Y ex, J Y cx, J Z xh, J Z xl, X tx, J Y 0], O #[J Y sy, J Y ey, J Y cy, J Z yh, J Z yl, X ty, J Y 0]] w (O #[J Y sx, J Y ex, J Y cx, J Z xh, J Z xl, X tx, J Y 0]) := by
 subst h1 h3
 go_enter Tryz.func169, Tryz.ntmps169
 go_wp2
 go_returns
 exact ⟨rfl, Gr.g⟩
theorem sum_inf (p mn mx md : Int) (k : Nat) (sx ex cx xh xl sy ey cy yh yl : Int) (tx ty : Bool) (h1 : cx = 2) (h2 : cy = 2) (h3 : (sx == sy) = false) (w : World) :
  QR 169 #[O #[J Y p, J Y mn, J Y mx, J Y md, .func (.func k) #[] #[]], O #[J Y sx, J Y ex, J Y cx, J Z xh, J Z xl, X tx, J Y 0], O #[J Y sy, J Y ey, J Y cy, J Z yh, J Z yl, X ty, J Y 0]] w (O #[J Y 0, J Y 0, J Y 4, J Z 0, J Z 0, X false, J Y 0]) := by
 subst h1 h2
 go_enter Tryz.func169, Tryz.ntmps169
 go_wp2
 go_returns
 exact ⟨rfl, Gr.g⟩
theorem sum_nil (p mn mx md : Int) (k : Nat) (sx ex cx xh xl sy ey cy yh yl : Int) (tx ty : Bool) (h1 : cx = 0) (h2 : cy = 0) (h3 : (sx == sy) = false) (os oe oc oh ol : Int) (ot : Bool) (HN : KR 217 #[O #[J Y p, J Y mn, J Y mx, J Y md, .func (.func k) #[] #[]]] (O #[J Y os, J Y oe, J Y oc, J Z oh, J Z ol, X ot, J Y 0])) (w : World) :
  QR 169 #[O #[J Y p, J Y mn, J Y mx, J Y md, .func (.func k) #[] #[]], O #[J Y sx, J Y ex, J Y cx, J Z xh, J Z xl, X tx, J Y 0], O #[J Y sy, J Y ey, J Y cy, J Z yh, J Z yl, X ty, J Y 0]] w (O #[J Y os, J Y oe, J Y oc, J Z oh, J Z ol, X ot, J Y 0]) := by
 subst h1 h2
 go_enter Tryz.func169, Tryz.ntmps169
 go_wp2_with (go_at_call 217; refine (HN.out _).mono ?_; rintro e w1 ⟨rfl, hg_w1⟩; obtain ⟨ar0, arz0, ar1, arz1, ar2, arz2, ar3, arz3, ar4, arz4, ar5, arz5, ar6, arz6⟩ := hg_w1.y7 (w.heap.size + 1 + 1 + 1) 0 1 2 3 4 5 6 (J Y 0) (J Y 0) (J Y 0) (J Z 0) (J Z 0) (X false) (J Y 0))
 refine bodyPost_ret (v := O #[J Y os, J Y oe, J Y oc, J Z oh, J Z ol, X ot, J Y 0]) (by simp [results, Tryz.results169, go_sem, ar0, ar1, ar2, ar3, ar4, ar5, ar6]) rfl ⟨rfl, ?_⟩
 exact Gr.g
theorem sum_tot (p mn mx md : Int) (k : Nat) (sx ex cx xh xl sy ey cy yh yl : Int) (tx ty : Bool) (h1 : cx = 1) (h2 : cy = 1) (Q : Int → Int → Int → Int → Int → Bool → Prop) (HT : Hid (∀ w, CT 216 #[O #[J Y p, J Y mn, J Y mx, J Y md, .func (.func k) #[] #[]], O #[J Y sx, J Y ex, J Y 1, J Z xh, J Z xl, X tx, J Y 0], O #[J Y sy, J Y ey, J Y 1, J Z yh, J Z yl, X ty, J Y 0]] w fun e w' => ∃ os oe oc oh ol ot, Q os oe oc oh ol ot ∧ e = .returned (O #[J Y os, J Y oe, J Y oc, J Z oh, J Z ol, X ot, J Y 0]) ∧ Gr w w')) (w : World) :
  CT 169 #[O #[J Y p, J Y mn, J Y mx, J Y md, .func (.func k) #[] #[]], O #[J Y sx, J Y ex, J Y cx, J Z xh, J Z xl, X tx, J Y 0], O #[J Y sy, J Y ey, J Y cy, J Z yh, J Z yl, X ty, J Y 0]] w fun e w' => ∃ os oe oc oh ol ot, Q os oe oc oh ol ot ∧ e = .returned (O #[J Y os, J Y oe, J Y oc, J Z oh, J Z ol, X ot, J Y 0]) ∧ Gr w w' := by
 subst h1 h2
 go_enter Tryz.func169, Tryz.ntmps169
 go_wp2_with (go_at_call 216; refine (HT.out _).mono ?_; rintro e w1 ⟨os, oe, oc, oh, ol, ot, hq, rfl, hg_w1⟩; obtain ⟨ar0, arz0, ar1, arz1, ar2, arz2, ar3, arz3, ar4, arz4, ar5, arz5, ar6, arz6⟩ := hg_w1.y7 (w.heap.size + 1 + 1 + 1) 0 1 2 3 4 5 6 (J Y 0) (J Y 0) (J Y 0) (J Z 0) (J Z 0) (X false) (J Y 0))
 refine bodyPost_ret (v := O #[J Y os, J Y oe, J Y oc, J Z oh, J Z ol, X ot, J Y 0]) (by simp [results, Tryz.results169, go_sem, ar0, ar1, ar2, ar3, ar4, ar5, ar6]) rfl ⟨os, oe, oc, oh, ol, ot, hq, rfl, ?_⟩
 exact Gr.g
end Go.Proofs.YtnbbfeknbfohhaaGreatDoor
