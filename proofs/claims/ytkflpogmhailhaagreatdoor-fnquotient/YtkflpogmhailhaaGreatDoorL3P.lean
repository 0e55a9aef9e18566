/- impl's sum, difference, product, pack, combine, calculate: the ways through them. -/
import Derived.Test.YtkflpogmhailhaaGreatDoorB5
import Derived.Deep.DeepCutAuto
set_option linter.unusedVariables false
set_option linter.unusedSimpArgs false
namespace Go.Proofs.YtkflpogmhailhaaGreatDoor
open Go.RowKit


/-- The variables of product behind the classes. -/
structure ProdAt (w wx : World) (o : Nat) (xl yl zs ze : Int) : Prop where
  g : Gr w wx := by exact kr
  x4 : wx.cell? ⟨w.heap.size + 1, 4, none⟩ = some (.int .u64 xl) := by exact kl
  y4 : wx.cell? ⟨w.heap.size + 1 + 1, 4, none⟩ = some (.int .u64 yl) := by exact kl
  o0 : wx.cell? ⟨o, 0, none⟩ = some (.int .i64 zs) := by exact kl
  oz0 : wx.frozen? ⟨o, 0, none⟩ = false := by exact kl
  o1 : wx.cell? ⟨o, 1, none⟩ = some (.int .i64 ze) := by exact kl
  oz1 : wx.frozen? ⟨o, 1, none⟩ = false := by exact kl
  o2 : wx.cell? ⟨o, 2, none⟩ = some (.int .i64 1) := by exact kl
  oz2 : wx.frozen? ⟨o, 2, none⟩ = false := by exact kl
  o3 : wx.cell? ⟨o, 3, none⟩ = some (.int .u64 0) := by exact kl
  oz3 : wx.frozen? ⟨o, 3, none⟩ = false := by exact kl
  o4 : wx.cell? ⟨o, 4, none⟩ = some (.int .u64 0) := by exact kl
  oz4 : wx.frozen? ⟨o, 4, none⟩ = false := by exact kl
  o5 : wx.cell? ⟨o, 5, none⟩ = some (.bool false) := by exact kl
  oz5 : wx.frozen? ⟨o, 5, none⟩ = false := by exact kl
  o6 : wx.cell? ⟨o, 6, none⟩ = some (.int .i64 0) := by exact kl
  oz6 : wx.frozen? ⟨o, 6, none⟩ = false := by exact kl
  r0 : wx.cell? ⟨w.heap.size + 1 + 1 + 1, 0, none⟩ = some (.int .i64 0) := by exact kl
  rz0 : wx.frozen? ⟨w.heap.size + 1 + 1 + 1, 0, none⟩ = false := by exact kl
  r1 : wx.cell? ⟨w.heap.size + 1 + 1 + 1, 1, none⟩ = some (.int .i64 0) := by exact kl
  rz1 : wx.frozen? ⟨w.heap.size + 1 + 1 + 1, 1, none⟩ = false := by exact kl
  r2 : wx.cell? ⟨w.heap.size + 1 + 1 + 1, 2, none⟩ = some (.int .i64 0) := by exact kl
  rz2 : wx.frozen? ⟨w.heap.size + 1 + 1 + 1, 2, none⟩ = false := by exact kl
  r3 : wx.cell? ⟨w.heap.size + 1 + 1 + 1, 3, none⟩ = some (.int .u64 0) := by exact kl
  rz3 : wx.frozen? ⟨w.heap.size + 1 + 1 + 1, 3, none⟩ = false := by exact kl
  r4 : wx.cell? ⟨w.heap.size + 1 + 1 + 1, 4, none⟩ = some (.int .u64 0) := by exact kl
  rz4 : wx.frozen? ⟨w.heap.size + 1 + 1 + 1, 4, none⟩ = false := by exact kl
  r5 : wx.cell? ⟨w.heap.size + 1 + 1 + 1, 5, none⟩ = some (.bool false) := by exact kl
  rz5 : wx.frozen? ⟨w.heap.size + 1 + 1 + 1, 5, none⟩ = false := by exact kl
  r6 : wx.cell? ⟨w.heap.size + 1 + 1 + 1, 6, none⟩ = some (.int .i64 0) := by exact kl
  rz6 : wx.frozen? ⟨w.heap.size + 1 + 1 + 1, 6, none⟩ = false := by exact kl

set_option maxRecDepth 100000 in
set_option maxHeartbeats 1000000 in
theorem product_00 (p mn mx md : Int) (k : Nat) (sx ex xh xl sy ey yh yl : Int) (tx ty : Bool) (zs ze : Int) (HT : Hid (∀ w, Calls Tryz.prog 111 #[.agg #[.int .i64 sx, .int .i64 ex], .agg #[.int .i64 sy, .int .i64 ey]] w fun e w' => e = .returned (.agg #[.int .i64 zs, .int .i64 ze]) ∧ Gr w w')) (w : World) :
    Calls Tryz.prog 66 #[.agg #[.int .i64 p, .int .i64 mn, .int .i64 mx, .int .i64 md, .func (.func k) #[] #[]], .agg #[.int .i64 sx, .int .i64 ex, .int .i64 0, .int .u64 xh, .int .u64 xl, .bool tx, .int .i64 0], .agg #[.int .i64 sy, .int .i64 ey, .int .i64 0, .int .u64 yh, .int .u64 yl, .bool ty, .int .i64 0]] w fun e w' => e = .returned (.agg #[.int .i64 zs, .int .i64 ze, .int .i64 0, .int .u64 0, .int .u64 0, .bool false, .int .i64 0]) ∧ Gr w w' := by
  go_enter Tryz.func66, Tryz.ntmps66
  go_wp2_with (go_at_call 111; refine (HT.out _).mono ?_; rintro e w1 ⟨rfl, hg_w1⟩; have ax2 : w1.cell? ⟨w.heap.size + 1, 2, none⟩ = some (.int .i64 0) := hg_w1.c; have ax4 : w1.cell? ⟨w.heap.size + 1, 4, none⟩ = some (.int .u64 xl) := hg_w1.c; have ay2 : w1.cell? ⟨w.heap.size + 1 + 1, 2, none⟩ = some (.int .i64 0) := hg_w1.c; have ay4 : w1.cell? ⟨w.heap.size + 1 + 1, 4, none⟩ = some (.int .u64 yl) := hg_w1.c; have ar0 : w1.cell? ⟨w.heap.size + 1 + 1 + 1, 0, none⟩ = some (.int .i64 0) := hg_w1.c; have arz0 : w1.frozen? ⟨w.heap.size + 1 + 1 + 1, 0, none⟩ = false := hg_w1.z; have ar1 : w1.cell? ⟨w.heap.size + 1 + 1 + 1, 1, none⟩ = some (.int .i64 0) := hg_w1.c; have arz1 : w1.frozen? ⟨w.heap.size + 1 + 1 + 1, 1, none⟩ = false := hg_w1.z; have ar2 : w1.cell? ⟨w.heap.size + 1 + 1 + 1, 2, none⟩ = some (.int .i64 0) := hg_w1.c; have arz2 : w1.frozen? ⟨w.heap.size + 1 + 1 + 1, 2, none⟩ = false := hg_w1.z; have ar3 : w1.cell? ⟨w.heap.size + 1 + 1 + 1, 3, none⟩ = some (.int .u64 0) := hg_w1.c; have arz3 : w1.frozen? ⟨w.heap.size + 1 + 1 + 1, 3, none⟩ = false := hg_w1.z; have ar4 : w1.cell? ⟨w.heap.size + 1 + 1 + 1, 4, none⟩ = some (.int .u64 0) := hg_w1.c; have arz4 : w1.frozen? ⟨w.heap.size + 1 + 1 + 1, 4, none⟩ = false := hg_w1.z; have ar5 : w1.cell? ⟨w.heap.size + 1 + 1 + 1, 5, none⟩ = some (.bool false) := hg_w1.c; have arz5 : w1.frozen? ⟨w.heap.size + 1 + 1 + 1, 5, none⟩ = false := hg_w1.z; have ar6 : w1.cell? ⟨w.heap.size + 1 + 1 + 1, 6, none⟩ = some (.int .i64 0) := hg_w1.c; have arz6 : w1.frozen? ⟨w.heap.size + 1 + 1 + 1, 6, none⟩ = false := hg_w1.z; have hz1 := cell_size ar0)
  go_cut [7, 8, 9] (fun s7 s8 s9 wx => s7 = .pointer (some ⟨w1.heap.size, 0, none⟩) ∧ s8 = .int .i64 0 ∧ s9 = .int .i64 0 ∧ ProdAt w wx w1.heap.size xl yl zs ze)
  case first =>
    go_region_held3 (fun w' => w'.cell? ⟨w.heap.size + 1, 2, none⟩ = some (.int .i64 0) ∧ w'.cell? ⟨w.heap.size + 1 + 1, 2, none⟩ = some (.int .i64 0))
      ((go_split_ands; (repeat' apply And.intro) <;> exact kh))
      (fail)
    all_goals (go_wp2; go_meet)
    all_goals exact ⟨rfl, rfl, rfl, {}⟩
  case rest =>
    obtain ⟨rfl, rfl, rfl, ⟨qg, qx4, qy4, qo0, qoz0, qo1, qoz1, qo2, qoz2, qo3, qoz3, qo4, qoz4, qo5, qoz5, qo6, qoz6, qr0, qrz0, qr1, qrz1, qr2, qrz2, qr3, qrz3, qr4, qrz4, qr5, qrz5, qr6, qrz6⟩⟩ := hcut
    have hzo := cell_size qo0
    have hzr := cell_size qr0
    go_wp2
    refine bodyPost_ret (v := .agg #[.int .i64 zs, .int .i64 ze, .int .i64 0, .int .u64 0, .int .u64 0, .bool false, .int .i64 0]) (by simp [results, Tryz.results66, go_sem, qr0, qr1, qr2, qr3, qr4, qr5, qr6]) rfl ⟨rfl, ?_⟩
    exact Gr.g

set_option maxRecDepth 100000 in
set_option maxHeartbeats 1000000 in
theorem product_01 (p mn mx md : Int) (k : Nat) (sx ex xh xl sy ey yh yl : Int) (tx ty : Bool) (zs ze : Int) (HT : Hid (∀ w, Calls Tryz.prog 111 #[.agg #[.int .i64 sx, .int .i64 ex], .agg #[.int .i64 sy, .int .i64 ey]] w fun e w' => e = .returned (.agg #[.int .i64 zs, .int .i64 ze]) ∧ Gr w w')) (w : World) :
    Calls Tryz.prog 66 #[.agg #[.int .i64 p, .int .i64 mn, .int .i64 mx, .int .i64 md, .func (.func k) #[] #[]], .agg #[.int .i64 sx, .int .i64 ex, .int .i64 0, .int .u64 xh, .int .u64 xl, .bool tx, .int .i64 0], .agg #[.int .i64 sy, .int .i64 ey, .int .i64 1, .int .u64 yh, .int .u64 yl, .bool ty, .int .i64 0]] w fun e w' => e = .returned (.agg #[.int .i64 zs, .int .i64 ze, .int .i64 0, .int .u64 0, .int .u64 0, .bool false, .int .i64 0]) ∧ Gr w w' := by
  go_enter Tryz.func66, Tryz.ntmps66
  go_wp2_with (go_at_call 111; refine (HT.out _).mono ?_; rintro e w1 ⟨rfl, hg_w1⟩; have ax2 : w1.cell? ⟨w.heap.size + 1, 2, none⟩ = some (.int .i64 0) := hg_w1.c; have ax4 : w1.cell? ⟨w.heap.size + 1, 4, none⟩ = some (.int .u64 xl) := hg_w1.c; have ay2 : w1.cell? ⟨w.heap.size + 1 + 1, 2, none⟩ = some (.int .i64 1) := hg_w1.c; have ay4 : w1.cell? ⟨w.heap.size + 1 + 1, 4, none⟩ = some (.int .u64 yl) := hg_w1.c; have ar0 : w1.cell? ⟨w.heap.size + 1 + 1 + 1, 0, none⟩ = some (.int .i64 0) := hg_w1.c; have arz0 : w1.frozen? ⟨w.heap.size + 1 + 1 + 1, 0, none⟩ = false := hg_w1.z; have ar1 : w1.cell? ⟨w.heap.size + 1 + 1 + 1, 1, none⟩ = some (.int .i64 0) := hg_w1.c; have arz1 : w1.frozen? ⟨w.heap.size + 1 + 1 + 1, 1, none⟩ = false := hg_w1.z; have ar2 : w1.cell? ⟨w.heap.size + 1 + 1 + 1, 2, none⟩ = some (.int .i64 0) := hg_w1.c; have arz2 : w1.frozen? ⟨w.heap.size + 1 + 1 + 1, 2, none⟩ = false := hg_w1.z; have ar3 : w1.cell? ⟨w.heap.size + 1 + 1 + 1, 3, none⟩ = some (.int .u64 0) := hg_w1.c; have arz3 : w1.frozen? ⟨w.heap.size + 1 + 1 + 1, 3, none⟩ = false := hg_w1.z; have ar4 : w1.cell? ⟨w.heap.size + 1 + 1 + 1, 4, none⟩ = some (.int .u64 0) := hg_w1.c; have arz4 : w1.frozen? ⟨w.heap.size + 1 + 1 + 1, 4, none⟩ = false := hg_w1.z; have ar5 : w1.cell? ⟨w.heap.size + 1 + 1 + 1, 5, none⟩ = some (.bool false) := hg_w1.c; have arz5 : w1.frozen? ⟨w.heap.size + 1 + 1 + 1, 5, none⟩ = false := hg_w1.z; have ar6 : w1.cell? ⟨w.heap.size + 1 + 1 + 1, 6, none⟩ = some (.int .i64 0) := hg_w1.c; have arz6 : w1.frozen? ⟨w.heap.size + 1 + 1 + 1, 6, none⟩ = false := hg_w1.z; have hz1 := cell_size ar0)
  go_cut [7, 8, 9] (fun s7 s8 s9 wx => s7 = .pointer (some ⟨w1.heap.size, 0, none⟩) ∧ s8 = .int .i64 0 ∧ s9 = .int .i64 1 ∧ ProdAt w wx w1.heap.size xl yl zs ze)
  case first =>
    go_region_held3 (fun w' => w'.cell? ⟨w.heap.size + 1, 2, none⟩ = some (.int .i64 0) ∧ w'.cell? ⟨w.heap.size + 1 + 1, 2, none⟩ = some (.int .i64 1))
      ((go_split_ands; (repeat' apply And.intro) <;> exact kh))
      (fail)
    all_goals (go_wp2; go_meet)
    all_goals exact ⟨rfl, rfl, rfl, {}⟩
  case rest =>
    obtain ⟨rfl, rfl, rfl, ⟨qg, qx4, qy4, qo0, qoz0, qo1, qoz1, qo2, qoz2, qo3, qoz3, qo4, qoz4, qo5, qoz5, qo6, qoz6, qr0, qrz0, qr1, qrz1, qr2, qrz2, qr3, qrz3, qr4, qrz4, qr5, qrz5, qr6, qrz6⟩⟩ := hcut
    have hzo := cell_size qo0
    have hzr := cell_size qr0
    go_wp2
    refine bodyPost_ret (v := .agg #[.int .i64 zs, .int .i64 ze, .int .i64 0, .int .u64 0, .int .u64 0, .bool false, .int .i64 0]) (by simp [results, Tryz.results66, go_sem, qr0, qr1, qr2, qr3, qr4, qr5, qr6]) rfl ⟨rfl, ?_⟩
    exact Gr.g

set_option maxRecDepth 100000 in
set_option maxHeartbeats 1000000 in
theorem product_02 (p mn mx md : Int) (k : Nat) (sx ex xh xl sy ey yh yl : Int) (tx ty : Bool) (zs ze : Int) (HT : Hid (∀ w, Calls Tryz.prog 111 #[.agg #[.int .i64 sx, .int .i64 ex], .agg #[.int .i64 sy, .int .i64 ey]] w fun e w' => e = .returned (.agg #[.int .i64 zs, .int .i64 ze]) ∧ Gr w w')) (w : World) :
    Calls Tryz.prog 66 #[.agg #[.int .i64 p, .int .i64 mn, .int .i64 mx, .int .i64 md, .func (.func k) #[] #[]], .agg #[.int .i64 sx, .int .i64 ex, .int .i64 0, .int .u64 xh, .int .u64 xl, .bool tx, .int .i64 0], .agg #[.int .i64 sy, .int .i64 ey, .int .i64 2, .int .u64 yh, .int .u64 yl, .bool ty, .int .i64 0]] w fun e w' => e = .returned (.agg #[.int .i64 zs, .int .i64 ze, .int .i64 4, .int .u64 0, .int .u64 0, .bool false, .int .i64 0]) ∧ Gr w w' := by
  go_enter Tryz.func66, Tryz.ntmps66
  go_wp2_with (go_at_call 111; refine (HT.out _).mono ?_; rintro e w1 ⟨rfl, hg_w1⟩; have ax2 : w1.cell? ⟨w.heap.size + 1, 2, none⟩ = some (.int .i64 0) := hg_w1.c; have ax4 : w1.cell? ⟨w.heap.size + 1, 4, none⟩ = some (.int .u64 xl) := hg_w1.c; have ay2 : w1.cell? ⟨w.heap.size + 1 + 1, 2, none⟩ = some (.int .i64 2) := hg_w1.c; have ay4 : w1.cell? ⟨w.heap.size + 1 + 1, 4, none⟩ = some (.int .u64 yl) := hg_w1.c; have ar0 : w1.cell? ⟨w.heap.size + 1 + 1 + 1, 0, none⟩ = some (.int .i64 0) := hg_w1.c; have arz0 : w1.frozen? ⟨w.heap.size + 1 + 1 + 1, 0, none⟩ = false := hg_w1.z; have ar1 : w1.cell? ⟨w.heap.size + 1 + 1 + 1, 1, none⟩ = some (.int .i64 0) := hg_w1.c; have arz1 : w1.frozen? ⟨w.heap.size + 1 + 1 + 1, 1, none⟩ = false := hg_w1.z; have ar2 : w1.cell? ⟨w.heap.size + 1 + 1 + 1, 2, none⟩ = some (.int .i64 0) := hg_w1.c; have arz2 : w1.frozen? ⟨w.heap.size + 1 + 1 + 1, 2, none⟩ = false := hg_w1.z; have ar3 : w1.cell? ⟨w.heap.size + 1 + 1 + 1, 3, none⟩ = some (.int .u64 0) := hg_w1.c; have arz3 : w1.frozen? ⟨w.heap.size + 1 + 1 + 1, 3, none⟩ = false := hg_w1.z; have ar4 : w1.cell? ⟨w.heap.size + 1 + 1 + 1, 4, none⟩ = some (.int .u64 0) := hg_w1.c; have arz4 : w1.frozen? ⟨w.heap.size + 1 + 1 + 1, 4, none⟩ = false := hg_w1.z; have ar5 : w1.cell? ⟨w.heap.size + 1 + 1 + 1, 5, none⟩ = some (.bool false) := hg_w1.c; have arz5 : w1.frozen? ⟨w.heap.size + 1 + 1 + 1, 5, none⟩ = false := hg_w1.z; have ar6 : w1.cell? ⟨w.heap.size + 1 + 1 + 1, 6, none⟩ = some (.int .i64 0) := hg_w1.c; have arz6 : w1.frozen? ⟨w.heap.size + 1 + 1 + 1, 6, none⟩ = false := hg_w1.z; have hz1 := cell_size ar0)
  go_cut [7, 8, 9] (fun s7 s8 s9 wx => s7 = .pointer (some ⟨w1.heap.size, 0, none⟩) ∧ s8 = .int .i64 0 ∧ s9 = .int .i64 2 ∧ ProdAt w wx w1.heap.size xl yl zs ze)
  case first =>
    go_region_held3 (fun w' => w'.cell? ⟨w.heap.size + 1, 2, none⟩ = some (.int .i64 0) ∧ w'.cell? ⟨w.heap.size + 1 + 1, 2, none⟩ = some (.int .i64 2))
      ((go_split_ands; (repeat' apply And.intro) <;> exact kh))
      (fail)
    all_goals (go_wp2; go_meet)
    all_goals exact ⟨rfl, rfl, rfl, {}⟩
  case rest =>
    obtain ⟨rfl, rfl, rfl, ⟨qg, qx4, qy4, qo0, qoz0, qo1, qoz1, qo2, qoz2, qo3, qoz3, qo4, qoz4, qo5, qoz5, qo6, qoz6, qr0, qrz0, qr1, qrz1, qr2, qrz2, qr3, qrz3, qr4, qrz4, qr5, qrz5, qr6, qrz6⟩⟩ := hcut
    have hzo := cell_size qo0
    have hzr := cell_size qr0
    go_wp2
    refine bodyPost_ret (v := .agg #[.int .i64 zs, .int .i64 ze, .int .i64 4, .int .u64 0, .int .u64 0, .bool false, .int .i64 0]) (by simp [results, Tryz.results66, go_sem, qr0, qr1, qr2, qr3, qr4, qr5, qr6]) rfl ⟨rfl, ?_⟩
    exact Gr.g

set_option maxRecDepth 100000 in
set_option maxHeartbeats 1000000 in
theorem product_10 (p mn mx md : Int) (k : Nat) (sx ex xh xl sy ey yh yl : Int) (tx ty : Bool) (zs ze : Int) (HT : Hid (∀ w, Calls Tryz.prog 111 #[.agg #[.int .i64 sx, .int .i64 ex], .agg #[.int .i64 sy, .int .i64 ey]] w fun e w' => e = .returned (.agg #[.int .i64 zs, .int .i64 ze]) ∧ Gr w w')) (w : World) :
    Calls Tryz.prog 66 #[.agg #[.int .i64 p, .int .i64 mn, .int .i64 mx, .int .i64 md, .func (.func k) #[] #[]], .agg #[.int .i64 sx, .int .i64 ex, .int .i64 1, .int .u64 xh, .int .u64 xl, .bool tx, .int .i64 0], .agg #[.int .i64 sy, .int .i64 ey, .int .i64 0, .int .u64 yh, .int .u64 yl, .bool ty, .int .i64 0]] w fun e w' => e = .returned (.agg #[.int .i64 zs, .int .i64 ze, .int .i64 0, .int .u64 0, .int .u64 0, .bool false, .int .i64 0]) ∧ Gr w w' := by
  go_enter Tryz.func66, Tryz.ntmps66
  go_wp2_with (go_at_call 111; refine (HT.out _).mono ?_; rintro e w1 ⟨rfl, hg_w1⟩; have ax2 : w1.cell? ⟨w.heap.size + 1, 2, none⟩ = some (.int .i64 1) := hg_w1.c; have ax4 : w1.cell? ⟨w.heap.size + 1, 4, none⟩ = some (.int .u64 xl) := hg_w1.c; have ay2 : w1.cell? ⟨w.heap.size + 1 + 1, 2, none⟩ = some (.int .i64 0) := hg_w1.c; have ay4 : w1.cell? ⟨w.heap.size + 1 + 1, 4, none⟩ = some (.int .u64 yl) := hg_w1.c; have ar0 : w1.cell? ⟨w.heap.size + 1 + 1 + 1, 0, none⟩ = some (.int .i64 0) := hg_w1.c; have arz0 : w1.frozen? ⟨w.heap.size + 1 + 1 + 1, 0, none⟩ = false := hg_w1.z; have ar1 : w1.cell? ⟨w.heap.size + 1 + 1 + 1, 1, none⟩ = some (.int .i64 0) := hg_w1.c; have arz1 : w1.frozen? ⟨w.heap.size + 1 + 1 + 1, 1, none⟩ = false := hg_w1.z; have ar2 : w1.cell? ⟨w.heap.size + 1 + 1 + 1, 2, none⟩ = some (.int .i64 0) := hg_w1.c; have arz2 : w1.frozen? ⟨w.heap.size + 1 + 1 + 1, 2, none⟩ = false := hg_w1.z; have ar3 : w1.cell? ⟨w.heap.size + 1 + 1 + 1, 3, none⟩ = some (.int .u64 0) := hg_w1.c; have arz3 : w1.frozen? ⟨w.heap.size + 1 + 1 + 1, 3, none⟩ = false := hg_w1.z; have ar4 : w1.cell? ⟨w.heap.size + 1 + 1 + 1, 4, none⟩ = some (.int .u64 0) := hg_w1.c; have arz4 : w1.frozen? ⟨w.heap.size + 1 + 1 + 1, 4, none⟩ = false := hg_w1.z; have ar5 : w1.cell? ⟨w.heap.size + 1 + 1 + 1, 5, none⟩ = some (.bool false) := hg_w1.c; have arz5 : w1.frozen? ⟨w.heap.size + 1 + 1 + 1, 5, none⟩ = false := hg_w1.z; have ar6 : w1.cell? ⟨w.heap.size + 1 + 1 + 1, 6, none⟩ = some (.int .i64 0) := hg_w1.c; have arz6 : w1.frozen? ⟨w.heap.size + 1 + 1 + 1, 6, none⟩ = false := hg_w1.z; have hz1 := cell_size ar0)
  go_cut [7, 8, 9] (fun s7 s8 s9 wx => s7 = .pointer (some ⟨w1.heap.size, 0, none⟩) ∧ s8 = .int .i64 0 ∧ s9 = .int .i64 1 ∧ ProdAt w wx w1.heap.size xl yl zs ze)
  case first =>
    go_region_held3 (fun w' => w'.cell? ⟨w.heap.size + 1, 2, none⟩ = some (.int .i64 1) ∧ w'.cell? ⟨w.heap.size + 1 + 1, 2, none⟩ = some (.int .i64 0))
      ((go_split_ands; (repeat' apply And.intro) <;> exact kh))
      (fail)
    all_goals (go_wp2; go_meet)
    all_goals exact ⟨rfl, rfl, rfl, {}⟩
  case rest =>
    obtain ⟨rfl, rfl, rfl, ⟨qg, qx4, qy4, qo0, qoz0, qo1, qoz1, qo2, qoz2, qo3, qoz3, qo4, qoz4, qo5, qoz5, qo6, qoz6, qr0, qrz0, qr1, qrz1, qr2, qrz2, qr3, qrz3, qr4, qrz4, qr5, qrz5, qr6, qrz6⟩⟩ := hcut
    have hzo := cell_size qo0
    have hzr := cell_size qr0
    go_wp2
    refine bodyPost_ret (v := .agg #[.int .i64 zs, .int .i64 ze, .int .i64 0, .int .u64 0, .int .u64 0, .bool false, .int .i64 0]) (by simp [results, Tryz.results66, go_sem, qr0, qr1, qr2, qr3, qr4, qr5, qr6]) rfl ⟨rfl, ?_⟩
    exact Gr.g

set_option maxRecDepth 100000 in
set_option maxHeartbeats 1000000 in
theorem product_11 (p mn mx md : Int) (k : Nat) (sx ex xh xl sy ey yh yl : Int) (tx ty : Bool) (zs ze : Int) (HT : Hid (∀ w, Calls Tryz.prog 111 #[.agg #[.int .i64 sx, .int .i64 ex], .agg #[.int .i64 sy, .int .i64 ey]] w fun e w' => e = .returned (.agg #[.int .i64 zs, .int .i64 ze]) ∧ Gr w w')) (mh ml : Int) (HM : Hid (∀ w, Calls Tryz.prog 112 #[.int .u64 xl, .int .u64 yl] w fun e w' => e = .returned (.agg #[.int .u64 mh, .int .u64 ml]) ∧ Gr w w')) (w : World) :
    Calls Tryz.prog 66 #[.agg #[.int .i64 p, .int .i64 mn, .int .i64 mx, .int .i64 md, .func (.func k) #[] #[]], .agg #[.int .i64 sx, .int .i64 ex, .int .i64 1, .int .u64 xh, .int .u64 xl, .bool tx, .int .i64 0], .agg #[.int .i64 sy, .int .i64 ey, .int .i64 1, .int .u64 yh, .int .u64 yl, .bool ty, .int .i64 0]] w fun e w' => e = .returned (.agg #[.int .i64 zs, .int .i64 ze, .int .i64 1, .int .u64 mh, .int .u64 ml, .bool false, .int .i64 0]) ∧ Gr w w' := by
  go_enter Tryz.func66, Tryz.ntmps66
  go_wp2_with (go_at_call 111; refine (HT.out _).mono ?_; rintro e w1 ⟨rfl, hg_w1⟩; have ax2 : w1.cell? ⟨w.heap.size + 1, 2, none⟩ = some (.int .i64 1) := hg_w1.c; have ax4 : w1.cell? ⟨w.heap.size + 1, 4, none⟩ = some (.int .u64 xl) := hg_w1.c; have ay2 : w1.cell? ⟨w.heap.size + 1 + 1, 2, none⟩ = some (.int .i64 1) := hg_w1.c; have ay4 : w1.cell? ⟨w.heap.size + 1 + 1, 4, none⟩ = some (.int .u64 yl) := hg_w1.c; have ar0 : w1.cell? ⟨w.heap.size + 1 + 1 + 1, 0, none⟩ = some (.int .i64 0) := hg_w1.c; have arz0 : w1.frozen? ⟨w.heap.size + 1 + 1 + 1, 0, none⟩ = false := hg_w1.z; have ar1 : w1.cell? ⟨w.heap.size + 1 + 1 + 1, 1, none⟩ = some (.int .i64 0) := hg_w1.c; have arz1 : w1.frozen? ⟨w.heap.size + 1 + 1 + 1, 1, none⟩ = false := hg_w1.z; have ar2 : w1.cell? ⟨w.heap.size + 1 + 1 + 1, 2, none⟩ = some (.int .i64 0) := hg_w1.c; have arz2 : w1.frozen? ⟨w.heap.size + 1 + 1 + 1, 2, none⟩ = false := hg_w1.z; have ar3 : w1.cell? ⟨w.heap.size + 1 + 1 + 1, 3, none⟩ = some (.int .u64 0) := hg_w1.c; have arz3 : w1.frozen? ⟨w.heap.size + 1 + 1 + 1, 3, none⟩ = false := hg_w1.z; have ar4 : w1.cell? ⟨w.heap.size + 1 + 1 + 1, 4, none⟩ = some (.int .u64 0) := hg_w1.c; have arz4 : w1.frozen? ⟨w.heap.size + 1 + 1 + 1, 4, none⟩ = false := hg_w1.z; have ar5 : w1.cell? ⟨w.heap.size + 1 + 1 + 1, 5, none⟩ = some (.bool false) := hg_w1.c; have arz5 : w1.frozen? ⟨w.heap.size + 1 + 1 + 1, 5, none⟩ = false := hg_w1.z; have ar6 : w1.cell? ⟨w.heap.size + 1 + 1 + 1, 6, none⟩ = some (.int .i64 0) := hg_w1.c; have arz6 : w1.frozen? ⟨w.heap.size + 1 + 1 + 1, 6, none⟩ = false := hg_w1.z; have hz1 := cell_size ar0)
  go_cut [7, 8, 9] (fun s7 s8 s9 wx => s7 = .pointer (some ⟨w1.heap.size, 0, none⟩) ∧ s8 = .int .i64 1 ∧ s9 = .int .i64 1 ∧ ProdAt w wx w1.heap.size xl yl zs ze)
  case first =>
    go_region_held3 (fun w' => w'.cell? ⟨w.heap.size + 1, 2, none⟩ = some (.int .i64 1) ∧ w'.cell? ⟨w.heap.size + 1 + 1, 2, none⟩ = some (.int .i64 1))
      ((go_split_ands; (repeat' apply And.intro) <;> exact kh))
      (fail)
    all_goals (go_wp2; go_meet)
    all_goals exact ⟨rfl, rfl, rfl, {}⟩
  case rest =>
    obtain ⟨rfl, rfl, rfl, ⟨qg, qx4, qy4, qo0, qoz0, qo1, qoz1, qo2, qoz2, qo3, qoz3, qo4, qoz4, qo5, qoz5, qo6, qoz6, qr0, qrz0, qr1, qrz1, qr2, qrz2, qr3, qrz3, qr4, qrz4, qr5, qrz5, qr6, qrz6⟩⟩ := hcut
    have hzo := cell_size qo0
    have hzr := cell_size qr0
    go_wp2_with (go_at_call 112; refine (HM.out _).mono ?_; rintro e w2 ⟨rfl, hg_w2⟩; have br0 : w2.cell? ⟨w.heap.size + 1 + 1 + 1, 0, none⟩ = some (.int .i64 0) := hg_w2.c; have brz0 : w2.frozen? ⟨w.heap.size + 1 + 1 + 1, 0, none⟩ = false := hg_w2.z; have br1 : w2.cell? ⟨w.heap.size + 1 + 1 + 1, 1, none⟩ = some (.int .i64 0) := hg_w2.c; have brz1 : w2.frozen? ⟨w.heap.size + 1 + 1 + 1, 1, none⟩ = false := hg_w2.z; have br2 : w2.cell? ⟨w.heap.size + 1 + 1 + 1, 2, none⟩ = some (.int .i64 0) := hg_w2.c; have brz2 : w2.frozen? ⟨w.heap.size + 1 + 1 + 1, 2, none⟩ = false := hg_w2.z; have br3 : w2.cell? ⟨w.heap.size + 1 + 1 + 1, 3, none⟩ = some (.int .u64 0) := hg_w2.c; have brz3 : w2.frozen? ⟨w.heap.size + 1 + 1 + 1, 3, none⟩ = false := hg_w2.z; have br4 : w2.cell? ⟨w.heap.size + 1 + 1 + 1, 4, none⟩ = some (.int .u64 0) := hg_w2.c; have brz4 : w2.frozen? ⟨w.heap.size + 1 + 1 + 1, 4, none⟩ = false := hg_w2.z; have br5 : w2.cell? ⟨w.heap.size + 1 + 1 + 1, 5, none⟩ = some (.bool false) := hg_w2.c; have brz5 : w2.frozen? ⟨w.heap.size + 1 + 1 + 1, 5, none⟩ = false := hg_w2.z; have br6 : w2.cell? ⟨w.heap.size + 1 + 1 + 1, 6, none⟩ = some (.int .i64 0) := hg_w2.c; have brz6 : w2.frozen? ⟨w.heap.size + 1 + 1 + 1, 6, none⟩ = false := hg_w2.z; have bo0 : w2.cell? ⟨w1.heap.size, 0, none⟩ = some (.int .i64 zs) := hg_w2.c; have boz0 : w2.frozen? ⟨w1.heap.size, 0, none⟩ = false := hg_w2.z; have bo1 : w2.cell? ⟨w1.heap.size, 1, none⟩ = some (.int .i64 ze) := hg_w2.c; have boz1 : w2.frozen? ⟨w1.heap.size, 1, none⟩ = false := hg_w2.z; have bo2 : w2.cell? ⟨w1.heap.size, 2, none⟩ = some (.int .i64 1) := hg_w2.c; have boz2 : w2.frozen? ⟨w1.heap.size, 2, none⟩ = false := hg_w2.z; have bo3 : w2.cell? ⟨w1.heap.size, 3, none⟩ = some (.int .u64 0) := hg_w2.c; have boz3 : w2.frozen? ⟨w1.heap.size, 3, none⟩ = false := hg_w2.z; have bo4 : w2.cell? ⟨w1.heap.size, 4, none⟩ = some (.int .u64 0) := hg_w2.c; have boz4 : w2.frozen? ⟨w1.heap.size, 4, none⟩ = false := hg_w2.z; have bo5 : w2.cell? ⟨w1.heap.size, 5, none⟩ = some (.bool false) := hg_w2.c; have boz5 : w2.frozen? ⟨w1.heap.size, 5, none⟩ = false := hg_w2.z; have bo6 : w2.cell? ⟨w1.heap.size, 6, none⟩ = some (.int .i64 0) := hg_w2.c; have boz6 : w2.frozen? ⟨w1.heap.size, 6, none⟩ = false := hg_w2.z; have hz2 := cell_size br0; have hz3 := cell_size bo0)
    refine bodyPost_ret (v := .agg #[.int .i64 zs, .int .i64 ze, .int .i64 1, .int .u64 mh, .int .u64 ml, .bool false, .int .i64 0]) (by simp [results, Tryz.results66, go_sem, br0, br1, br2, br3, br4, br5, br6]) rfl ⟨rfl, ?_⟩
    exact Gr.g

set_option maxRecDepth 100000 in
set_option maxHeartbeats 1000000 in
theorem product_12 (p mn mx md : Int) (k : Nat) (sx ex xh xl sy ey yh yl : Int) (tx ty : Bool) (zs ze : Int) (HT : Hid (∀ w, Calls Tryz.prog 111 #[.agg #[.int .i64 sx, .int .i64 ex], .agg #[.int .i64 sy, .int .i64 ey]] w fun e w' => e = .returned (.agg #[.int .i64 zs, .int .i64 ze]) ∧ Gr w w')) (w : World) :
    Calls Tryz.prog 66 #[.agg #[.int .i64 p, .int .i64 mn, .int .i64 mx, .int .i64 md, .func (.func k) #[] #[]], .agg #[.int .i64 sx, .int .i64 ex, .int .i64 1, .int .u64 xh, .int .u64 xl, .bool tx, .int .i64 0], .agg #[.int .i64 sy, .int .i64 ey, .int .i64 2, .int .u64 yh, .int .u64 yl, .bool ty, .int .i64 0]] w fun e w' => e = .returned (.agg #[.int .i64 zs, .int .i64 ze, .int .i64 2, .int .u64 0, .int .u64 0, .bool false, .int .i64 0]) ∧ Gr w w' := by
  go_enter Tryz.func66, Tryz.ntmps66
  go_wp2_with (go_at_call 111; refine (HT.out _).mono ?_; rintro e w1 ⟨rfl, hg_w1⟩; have ax2 : w1.cell? ⟨w.heap.size + 1, 2, none⟩ = some (.int .i64 1) := hg_w1.c; have ax4 : w1.cell? ⟨w.heap.size + 1, 4, none⟩ = some (.int .u64 xl) := hg_w1.c; have ay2 : w1.cell? ⟨w.heap.size + 1 + 1, 2, none⟩ = some (.int .i64 2) := hg_w1.c; have ay4 : w1.cell? ⟨w.heap.size + 1 + 1, 4, none⟩ = some (.int .u64 yl) := hg_w1.c; have ar0 : w1.cell? ⟨w.heap.size + 1 + 1 + 1, 0, none⟩ = some (.int .i64 0) := hg_w1.c; have arz0 : w1.frozen? ⟨w.heap.size + 1 + 1 + 1, 0, none⟩ = false := hg_w1.z; have ar1 : w1.cell? ⟨w.heap.size + 1 + 1 + 1, 1, none⟩ = some (.int .i64 0) := hg_w1.c; have arz1 : w1.frozen? ⟨w.heap.size + 1 + 1 + 1, 1, none⟩ = false := hg_w1.z; have ar2 : w1.cell? ⟨w.heap.size + 1 + 1 + 1, 2, none⟩ = some (.int .i64 0) := hg_w1.c; have arz2 : w1.frozen? ⟨w.heap.size + 1 + 1 + 1, 2, none⟩ = false := hg_w1.z; have ar3 : w1.cell? ⟨w.heap.size + 1 + 1 + 1, 3, none⟩ = some (.int .u64 0) := hg_w1.c; have arz3 : w1.frozen? ⟨w.heap.size + 1 + 1 + 1, 3, none⟩ = false := hg_w1.z; have ar4 : w1.cell? ⟨w.heap.size + 1 + 1 + 1, 4, none⟩ = some (.int .u64 0) := hg_w1.c; have arz4 : w1.frozen? ⟨w.heap.size + 1 + 1 + 1, 4, none⟩ = false := hg_w1.z; have ar5 : w1.cell? ⟨w.heap.size + 1 + 1 + 1, 5, none⟩ = some (.bool false) := hg_w1.c; have arz5 : w1.frozen? ⟨w.heap.size + 1 + 1 + 1, 5, none⟩ = false := hg_w1.z; have ar6 : w1.cell? ⟨w.heap.size + 1 + 1 + 1, 6, none⟩ = some (.int .i64 0) := hg_w1.c; have arz6 : w1.frozen? ⟨w.heap.size + 1 + 1 + 1, 6, none⟩ = false := hg_w1.z; have hz1 := cell_size ar0)
  go_cut [7, 8, 9] (fun s7 s8 s9 wx => s7 = .pointer (some ⟨w1.heap.size, 0, none⟩) ∧ s8 = .int .i64 1 ∧ s9 = .int .i64 2 ∧ ProdAt w wx w1.heap.size xl yl zs ze)
  case first =>
    go_region_held3 (fun w' => w'.cell? ⟨w.heap.size + 1, 2, none⟩ = some (.int .i64 1) ∧ w'.cell? ⟨w.heap.size + 1 + 1, 2, none⟩ = some (.int .i64 2))
      ((go_split_ands; (repeat' apply And.intro) <;> exact kh))
      (fail)
    all_goals (go_wp2; go_meet)
    all_goals exact ⟨rfl, rfl, rfl, {}⟩
  case rest =>
    obtain ⟨rfl, rfl, rfl, ⟨qg, qx4, qy4, qo0, qoz0, qo1, qoz1, qo2, qoz2, qo3, qoz3, qo4, qoz4, qo5, qoz5, qo6, qoz6, qr0, qrz0, qr1, qrz1, qr2, qrz2, qr3, qrz3, qr4, qrz4, qr5, qrz5, qr6, qrz6⟩⟩ := hcut
    have hzo := cell_size qo0
    have hzr := cell_size qr0
    go_wp2
    refine bodyPost_ret (v := .agg #[.int .i64 zs, .int .i64 ze, .int .i64 2, .int .u64 0, .int .u64 0, .bool false, .int .i64 0]) (by simp [results, Tryz.results66, go_sem, qr0, qr1, qr2, qr3, qr4, qr5, qr6]) rfl ⟨rfl, ?_⟩
    exact Gr.g

set_option maxRecDepth 100000 in
set_option maxHeartbeats 1000000 in
theorem product_20 (p mn mx md : Int) (k : Nat) (sx ex xh xl sy ey yh yl : Int) (tx ty : Bool) (zs ze : Int) (HT : Hid (∀ w, Calls Tryz.prog 111 #[.agg #[.int .i64 sx, .int .i64 ex], .agg #[.int .i64 sy, .int .i64 ey]] w fun e w' => e = .returned (.agg #[.int .i64 zs, .int .i64 ze]) ∧ Gr w w')) (w : World) :
    Calls Tryz.prog 66 #[.agg #[.int .i64 p, .int .i64 mn, .int .i64 mx, .int .i64 md, .func (.func k) #[] #[]], .agg #[.int .i64 sx, .int .i64 ex, .int .i64 2, .int .u64 xh, .int .u64 xl, .bool tx, .int .i64 0], .agg #[.int .i64 sy, .int .i64 ey, .int .i64 0, .int .u64 yh, .int .u64 yl, .bool ty, .int .i64 0]] w fun e w' => e = .returned (.agg #[.int .i64 zs, .int .i64 ze, .int .i64 4, .int .u64 0, .int .u64 0, .bool false, .int .i64 0]) ∧ Gr w w' := by
  go_enter Tryz.func66, Tryz.ntmps66
  go_wp2_with (go_at_call 111; refine (HT.out _).mono ?_; rintro e w1 ⟨rfl, hg_w1⟩; have ax2 : w1.cell? ⟨w.heap.size + 1, 2, none⟩ = some (.int .i64 2) := hg_w1.c; have ax4 : w1.cell? ⟨w.heap.size + 1, 4, none⟩ = some (.int .u64 xl) := hg_w1.c; have ay2 : w1.cell? ⟨w.heap.size + 1 + 1, 2, none⟩ = some (.int .i64 0) := hg_w1.c; have ay4 : w1.cell? ⟨w.heap.size + 1 + 1, 4, none⟩ = some (.int .u64 yl) := hg_w1.c; have ar0 : w1.cell? ⟨w.heap.size + 1 + 1 + 1, 0, none⟩ = some (.int .i64 0) := hg_w1.c; have arz0 : w1.frozen? ⟨w.heap.size + 1 + 1 + 1, 0, none⟩ = false := hg_w1.z; have ar1 : w1.cell? ⟨w.heap.size + 1 + 1 + 1, 1, none⟩ = some (.int .i64 0) := hg_w1.c; have arz1 : w1.frozen? ⟨w.heap.size + 1 + 1 + 1, 1, none⟩ = false := hg_w1.z; have ar2 : w1.cell? ⟨w.heap.size + 1 + 1 + 1, 2, none⟩ = some (.int .i64 0) := hg_w1.c; have arz2 : w1.frozen? ⟨w.heap.size + 1 + 1 + 1, 2, none⟩ = false := hg_w1.z; have ar3 : w1.cell? ⟨w.heap.size + 1 + 1 + 1, 3, none⟩ = some (.int .u64 0) := hg_w1.c; have arz3 : w1.frozen? ⟨w.heap.size + 1 + 1 + 1, 3, none⟩ = false := hg_w1.z; have ar4 : w1.cell? ⟨w.heap.size + 1 + 1 + 1, 4, none⟩ = some (.int .u64 0) := hg_w1.c; have arz4 : w1.frozen? ⟨w.heap.size + 1 + 1 + 1, 4, none⟩ = false := hg_w1.z; have ar5 : w1.cell? ⟨w.heap.size + 1 + 1 + 1, 5, none⟩ = some (.bool false) := hg_w1.c; have arz5 : w1.frozen? ⟨w.heap.size + 1 + 1 + 1, 5, none⟩ = false := hg_w1.z; have ar6 : w1.cell? ⟨w.heap.size + 1 + 1 + 1, 6, none⟩ = some (.int .i64 0) := hg_w1.c; have arz6 : w1.frozen? ⟨w.heap.size + 1 + 1 + 1, 6, none⟩ = false := hg_w1.z; have hz1 := cell_size ar0)
  go_cut [7, 8, 9] (fun s7 s8 s9 wx => s7 = .pointer (some ⟨w1.heap.size, 0, none⟩) ∧ s8 = .int .i64 0 ∧ s9 = .int .i64 2 ∧ ProdAt w wx w1.heap.size xl yl zs ze)
  case first =>
    go_region_held3 (fun w' => w'.cell? ⟨w.heap.size + 1, 2, none⟩ = some (.int .i64 2) ∧ w'.cell? ⟨w.heap.size + 1 + 1, 2, none⟩ = some (.int .i64 0))
      ((go_split_ands; (repeat' apply And.intro) <;> exact kh))
      (fail)
    all_goals (go_wp2; go_meet)
    all_goals exact ⟨rfl, rfl, rfl, {}⟩
  case rest =>
    obtain ⟨rfl, rfl, rfl, ⟨qg, qx4, qy4, qo0, qoz0, qo1, qoz1, qo2, qoz2, qo3, qoz3, qo4, qoz4, qo5, qoz5, qo6, qoz6, qr0, qrz0, qr1, qrz1, qr2, qrz2, qr3, qrz3, qr4, qrz4, qr5, qrz5, qr6, qrz6⟩⟩ := hcut
    have hzo := cell_size qo0
    have hzr := cell_size qr0
    go_wp2
    refine bodyPost_ret (v := .agg #[.int .i64 zs, .int .i64 ze, .int .i64 4, .int .u64 0, .int .u64 0, .bool false, .int .i64 0]) (by simp [results, Tryz.results66, go_sem, qr0, qr1, qr2, qr3, qr4, qr5, qr6]) rfl ⟨rfl, ?_⟩
    exact Gr.g

set_option maxRecDepth 100000 in
set_option maxHeartbeats 1000000 in
theorem product_21 (p mn mx md : Int) (k : Nat) (sx ex xh xl sy ey yh yl : Int) (tx ty : Bool) (zs ze : Int) (HT : Hid (∀ w, Calls Tryz.prog 111 #[.agg #[.int .i64 sx, .int .i64 ex], .agg #[.int .i64 sy, .int .i64 ey]] w fun e w' => e = .returned (.agg #[.int .i64 zs, .int .i64 ze]) ∧ Gr w w')) (w : World) :
    Calls Tryz.prog 66 #[.agg #[.int .i64 p, .int .i64 mn, .int .i64 mx, .int .i64 md, .func (.func k) #[] #[]], .agg #[.int .i64 sx, .int .i64 ex, .int .i64 2, .int .u64 xh, .int .u64 xl, .bool tx, .int .i64 0], .agg #[.int .i64 sy, .int .i64 ey, .int .i64 1, .int .u64 yh, .int .u64 yl, .bool ty, .int .i64 0]] w fun e w' => e = .returned (.agg #[.int .i64 zs, .int .i64 ze, .int .i64 2, .int .u64 0, .int .u64 0, .bool false, .int .i64 0]) ∧ Gr w w' := by
  go_enter Tryz.func66, Tryz.ntmps66
  go_wp2_with (go_at_call 111; refine (HT.out _).mono ?_; rintro e w1 ⟨rfl, hg_w1⟩; have ax2 : w1.cell? ⟨w.heap.size + 1, 2, none⟩ = some (.int .i64 2) := hg_w1.c; have ax4 : w1.cell? ⟨w.heap.size + 1, 4, none⟩ = some (.int .u64 xl) := hg_w1.c; have ay2 : w1.cell? ⟨w.heap.size + 1 + 1, 2, none⟩ = some (.int .i64 1) := hg_w1.c; have ay4 : w1.cell? ⟨w.heap.size + 1 + 1, 4, none⟩ = some (.int .u64 yl) := hg_w1.c; have ar0 : w1.cell? ⟨w.heap.size + 1 + 1 + 1, 0, none⟩ = some (.int .i64 0) := hg_w1.c; have arz0 : w1.frozen? ⟨w.heap.size + 1 + 1 + 1, 0, none⟩ = false := hg_w1.z; have ar1 : w1.cell? ⟨w.heap.size + 1 + 1 + 1, 1, none⟩ = some (.int .i64 0) := hg_w1.c; have arz1 : w1.frozen? ⟨w.heap.size + 1 + 1 + 1, 1, none⟩ = false := hg_w1.z; have ar2 : w1.cell? ⟨w.heap.size + 1 + 1 + 1, 2, none⟩ = some (.int .i64 0) := hg_w1.c; have arz2 : w1.frozen? ⟨w.heap.size + 1 + 1 + 1, 2, none⟩ = false := hg_w1.z; have ar3 : w1.cell? ⟨w.heap.size + 1 + 1 + 1, 3, none⟩ = some (.int .u64 0) := hg_w1.c; have arz3 : w1.frozen? ⟨w.heap.size + 1 + 1 + 1, 3, none⟩ = false := hg_w1.z; have ar4 : w1.cell? ⟨w.heap.size + 1 + 1 + 1, 4, none⟩ = some (.int .u64 0) := hg_w1.c; have arz4 : w1.frozen? ⟨w.heap.size + 1 + 1 + 1, 4, none⟩ = false := hg_w1.z; have ar5 : w1.cell? ⟨w.heap.size + 1 + 1 + 1, 5, none⟩ = some (.bool false) := hg_w1.c; have arz5 : w1.frozen? ⟨w.heap.size + 1 + 1 + 1, 5, none⟩ = false := hg_w1.z; have ar6 : w1.cell? ⟨w.heap.size + 1 + 1 + 1, 6, none⟩ = some (.int .i64 0) := hg_w1.c; have arz6 : w1.frozen? ⟨w.heap.size + 1 + 1 + 1, 6, none⟩ = false := hg_w1.z; have hz1 := cell_size ar0)
  go_cut [7, 8, 9] (fun s7 s8 s9 wx => s7 = .pointer (some ⟨w1.heap.size, 0, none⟩) ∧ s8 = .int .i64 1 ∧ s9 = .int .i64 2 ∧ ProdAt w wx w1.heap.size xl yl zs ze)
  case first =>
    go_region_held3 (fun w' => w'.cell? ⟨w.heap.size + 1, 2, none⟩ = some (.int .i64 2) ∧ w'.cell? ⟨w.heap.size + 1 + 1, 2, none⟩ = some (.int .i64 1))
      ((go_split_ands; (repeat' apply And.intro) <;> exact kh))
      (fail)
    all_goals (go_wp2; go_meet)
    all_goals exact ⟨rfl, rfl, rfl, {}⟩
  case rest =>
    obtain ⟨rfl, rfl, rfl, ⟨qg, qx4, qy4, qo0, qoz0, qo1, qoz1, qo2, qoz2, qo3, qoz3, qo4, qoz4, qo5, qoz5, qo6, qoz6, qr0, qrz0, qr1, qrz1, qr2, qrz2, qr3, qrz3, qr4, qrz4, qr5, qrz5, qr6, qrz6⟩⟩ := hcut
    have hzo := cell_size qo0
    have hzr := cell_size qr0
    go_wp2
    refine bodyPost_ret (v := .agg #[.int .i64 zs, .int .i64 ze, .int .i64 2, .int .u64 0, .int .u64 0, .bool false, .int .i64 0]) (by simp [results, Tryz.results66, go_sem, qr0, qr1, qr2, qr3, qr4, qr5, qr6]) rfl ⟨rfl, ?_⟩
    exact Gr.g

set_option maxRecDepth 100000 in
set_option maxHeartbeats 1000000 in
theorem product_22 (p mn mx md : Int) (k : Nat) (sx ex xh xl sy ey yh yl : Int) (tx ty : Bool) (zs ze : Int) (HT : Hid (∀ w, Calls Tryz.prog 111 #[.agg #[.int .i64 sx, .int .i64 ex], .agg #[.int .i64 sy, .int .i64 ey]] w fun e w' => e = .returned (.agg #[.int .i64 zs, .int .i64 ze]) ∧ Gr w w')) (w : World) :
    Calls Tryz.prog 66 #[.agg #[.int .i64 p, .int .i64 mn, .int .i64 mx, .int .i64 md, .func (.func k) #[] #[]], .agg #[.int .i64 sx, .int .i64 ex, .int .i64 2, .int .u64 xh, .int .u64 xl, .bool tx, .int .i64 0], .agg #[.int .i64 sy, .int .i64 ey, .int .i64 2, .int .u64 yh, .int .u64 yl, .bool ty, .int .i64 0]] w fun e w' => e = .returned (.agg #[.int .i64 zs, .int .i64 ze, .int .i64 2, .int .u64 0, .int .u64 0, .bool false, .int .i64 0]) ∧ Gr w w' := by
  go_enter Tryz.func66, Tryz.ntmps66
  go_wp2_with (go_at_call 111; refine (HT.out _).mono ?_; rintro e w1 ⟨rfl, hg_w1⟩; have ax2 : w1.cell? ⟨w.heap.size + 1, 2, none⟩ = some (.int .i64 2) := hg_w1.c; have ax4 : w1.cell? ⟨w.heap.size + 1, 4, none⟩ = some (.int .u64 xl) := hg_w1.c; have ay2 : w1.cell? ⟨w.heap.size + 1 + 1, 2, none⟩ = some (.int .i64 2) := hg_w1.c; have ay4 : w1.cell? ⟨w.heap.size + 1 + 1, 4, none⟩ = some (.int .u64 yl) := hg_w1.c; have ar0 : w1.cell? ⟨w.heap.size + 1 + 1 + 1, 0, none⟩ = some (.int .i64 0) := hg_w1.c; have arz0 : w1.frozen? ⟨w.heap.size + 1 + 1 + 1, 0, none⟩ = false := hg_w1.z; have ar1 : w1.cell? ⟨w.heap.size + 1 + 1 + 1, 1, none⟩ = some (.int .i64 0) := hg_w1.c; have arz1 : w1.frozen? ⟨w.heap.size + 1 + 1 + 1, 1, none⟩ = false := hg_w1.z; have ar2 : w1.cell? ⟨w.heap.size + 1 + 1 + 1, 2, none⟩ = some (.int .i64 0) := hg_w1.c; have arz2 : w1.frozen? ⟨w.heap.size + 1 + 1 + 1, 2, none⟩ = false := hg_w1.z; have ar3 : w1.cell? ⟨w.heap.size + 1 + 1 + 1, 3, none⟩ = some (.int .u64 0) := hg_w1.c; have arz3 : w1.frozen? ⟨w.heap.size + 1 + 1 + 1, 3, none⟩ = false := hg_w1.z; have ar4 : w1.cell? ⟨w.heap.size + 1 + 1 + 1, 4, none⟩ = some (.int .u64 0) := hg_w1.c; have arz4 : w1.frozen? ⟨w.heap.size + 1 + 1 + 1, 4, none⟩ = false := hg_w1.z; have ar5 : w1.cell? ⟨w.heap.size + 1 + 1 + 1, 5, none⟩ = some (.bool false) := hg_w1.c; have arz5 : w1.frozen? ⟨w.heap.size + 1 + 1 + 1, 5, none⟩ = false := hg_w1.z; have ar6 : w1.cell? ⟨w.heap.size + 1 + 1 + 1, 6, none⟩ = some (.int .i64 0) := hg_w1.c; have arz6 : w1.frozen? ⟨w.heap.size + 1 + 1 + 1, 6, none⟩ = false := hg_w1.z; have hz1 := cell_size ar0)
  go_cut [7, 8, 9] (fun s7 s8 s9 wx => s7 = .pointer (some ⟨w1.heap.size, 0, none⟩) ∧ s8 = .int .i64 2 ∧ s9 = .int .i64 2 ∧ ProdAt w wx w1.heap.size xl yl zs ze)
  case first =>
    go_region_held3 (fun w' => w'.cell? ⟨w.heap.size + 1, 2, none⟩ = some (.int .i64 2) ∧ w'.cell? ⟨w.heap.size + 1 + 1, 2, none⟩ = some (.int .i64 2))
      ((go_split_ands; (repeat' apply And.intro) <;> exact kh))
      (fail)
    all_goals (go_wp2; go_meet)
    all_goals exact ⟨rfl, rfl, rfl, {}⟩
  case rest =>
    obtain ⟨rfl, rfl, rfl, ⟨qg, qx4, qy4, qo0, qoz0, qo1, qoz1, qo2, qoz2, qo3, qoz3, qo4, qoz4, qo5, qoz5, qo6, qoz6, qr0, qrz0, qr1, qrz1, qr2, qrz2, qr3, qrz3, qr4, qrz4, qr5, qrz5, qr6, qrz6⟩⟩ := hcut
    have hzo := cell_size qo0
    have hzr := cell_size qr0
    go_wp2
    refine bodyPost_ret (v := .agg #[.int .i64 zs, .int .i64 ze, .int .i64 2, .int .u64 0, .int .u64 0, .bool false, .int .i64 0]) (by simp [results, Tryz.results66, go_sem, qr0, qr1, qr2, qr3, qr4, qr5, qr6]) rfl ⟨rfl, ?_⟩
    exact Gr.g

end Go.Proofs.YtkflpogmhailhaaGreatDoor
