/- impl's operand. -/
import Derived.Test.YtkflpogmhailhaaGreatDoorSetg
import Derived.Test.YtkflpogmhailhaaGreatDoorF2D
import Derived.Deep.DeepCutAuto
import Derived.Deep.RegionHeld3
set_option linter.unusedVariables false
set_option linter.unusedSimpArgs false
namespace Go.Proofs.YtkflpogmhailhaaGreatDoor
open Go.RowKit

set_option maxRecDepth 100000 in
set_option maxHeartbeats 2000000 in
theorem operand_fit {p mn mx fb sp one inf sg nan : Int} (h : IsM p mn mx fb sp one inf sg nan) (W : Int) (h0 : 0 ≤ W) (h1 : W < 2 * sg) (w : World) :
    Calls Tryz.prog 53 #[.agg #[.int .i64 p, .int .i64 mn, .int .i64 mx], .int .u64 W] w fun e w' => ∃ c s x g : Int, UnpackIs p mx one inf sg nan W c s x g ∧ e = .returned (.agg #[.int .i64 s, .int .i64 x, .int .i64 c, .int .u64 0, .int .u64 g, .bool false, .int .i64 0]) ∧ Gr w w' := by
  have HU : Hid (∀ w, Calls Tryz.prog 103 #[.agg #[.int .i64 p, .int .i64 mn, .int .i64 mx], .int .u64 W] w fun e w' => ∃ c s x g : Int, UnpackIs p mx one inf sg nan W c s x g ∧ e = .returned (.agg #[.int .i64 c, .int .i64 s, .int .i64 x, .int .u64 g]) ∧ Gr w w') := fun w => unpack_any h W h0 h1 w
  clear h
  go_enter Tryz.func53, Tryz.ntmps53
  go_wp2_with (go_at_call 103; refine (HU.out _).mono ?_; rintro e w1 ⟨c, s, x, g, hu, rfl, hg_w1⟩; have ar0 : w1.cell? ⟨w.heap.size + 1, 0, none⟩ = some (.int .i64 0) := hg_w1.c; have arz0 : w1.frozen? ⟨w.heap.size + 1, 0, none⟩ = false := hg_w1.z; have arA0 := (fun ob => cell_alloc ob ar0); have arB0 : ∀ c t, (w1.alloc (.cells c t)).frozen? ⟨w.heap.size + 1, 0, none⟩ = false := (fun c t => fz_alloc arz0); have ar1 : w1.cell? ⟨w.heap.size + 1, 1, none⟩ = some (.int .i64 0) := hg_w1.c; have arz1 : w1.frozen? ⟨w.heap.size + 1, 1, none⟩ = false := hg_w1.z; have arA1 := (fun ob => cell_alloc ob ar1); have arB1 : ∀ c t, (w1.alloc (.cells c t)).frozen? ⟨w.heap.size + 1, 1, none⟩ = false := (fun c t => fz_alloc arz1); have ar2 : w1.cell? ⟨w.heap.size + 1, 2, none⟩ = some (.int .i64 0) := hg_w1.c; have arz2 : w1.frozen? ⟨w.heap.size + 1, 2, none⟩ = false := hg_w1.z; have arA2 := (fun ob => cell_alloc ob ar2); have arB2 : ∀ c t, (w1.alloc (.cells c t)).frozen? ⟨w.heap.size + 1, 2, none⟩ = false := (fun c t => fz_alloc arz2); have ar3 : w1.cell? ⟨w.heap.size + 1, 3, none⟩ = some (.int .u64 0) := hg_w1.c; have arz3 : w1.frozen? ⟨w.heap.size + 1, 3, none⟩ = false := hg_w1.z; have arA3 := (fun ob => cell_alloc ob ar3); have arB3 : ∀ c t, (w1.alloc (.cells c t)).frozen? ⟨w.heap.size + 1, 3, none⟩ = false := (fun c t => fz_alloc arz3); have ar4 : w1.cell? ⟨w.heap.size + 1, 4, none⟩ = some (.int .u64 0) := hg_w1.c; have arz4 : w1.frozen? ⟨w.heap.size + 1, 4, none⟩ = false := hg_w1.z; have arA4 := (fun ob => cell_alloc ob ar4); have arB4 : ∀ c t, (w1.alloc (.cells c t)).frozen? ⟨w.heap.size + 1, 4, none⟩ = false := (fun c t => fz_alloc arz4); have ar5 : w1.cell? ⟨w.heap.size + 1, 5, none⟩ = some (.bool false) := hg_w1.c; have arz5 : w1.frozen? ⟨w.heap.size + 1, 5, none⟩ = false := hg_w1.z; have arA5 := (fun ob => cell_alloc ob ar5); have arB5 : ∀ c t, (w1.alloc (.cells c t)).frozen? ⟨w.heap.size + 1, 5, none⟩ = false := (fun c t => fz_alloc arz5); have ar6 : w1.cell? ⟨w.heap.size + 1, 6, none⟩ = some (.int .i64 0) := hg_w1.c; have arz6 : w1.frozen? ⟨w.heap.size + 1, 6, none⟩ = false := hg_w1.z; have arA6 := (fun ob => cell_alloc ob ar6); have arB6 : ∀ c t, (w1.alloc (.cells c t)).frozen? ⟨w.heap.size + 1, 6, none⟩ = false := (fun c t => fz_alloc arz6))
  refine bodyPost_ret (v := .agg #[.int .i64 s, .int .i64 x, .int .i64 c, .int .u64 0, .int .u64 g, .bool false, .int .i64 0]) (by simp [results, Tryz.results53, go_sem, arA0, arA1, arA2, arA3, arA4, arA5, arA6]) rfl ⟨c, s, x, g, hu, rfl, ?_⟩
  exact Gr.g

set_option maxRecDepth 100000 in
set_option maxHeartbeats 2000000 in
theorem operand_wide {p mn mx fb sp one inf sg nan : Int} (h : IsM p mn mx fb sp one inf sg nan) (W : Int) (h0 : 2 * sg ≤ W) (h1 : W < 18446744073709551616) (w : World) :
    Calls Tryz.prog 53 #[.agg #[.int .i64 p, .int .i64 mn, .int .i64 mx], .int .u64 W] w fun e w' => e = .returned (.agg #[.int .i64 0, .int .i64 0, .int .i64 4, .int .u64 0, .int .u64 0, .bool false, .int .i64 0]) ∧ Gr w w' := by
  have HU : Hid (∀ w, Calls Tryz.prog 103 #[.agg #[.int .i64 p, .int .i64 mn, .int .i64 mx], .int .u64 W] w fun e w' => e = .returned (.agg #[.int .i64 4, .int .i64 0, .int .i64 0, .int .u64 0]) ∧ Gr w w') := fun w => unpack_wide h W h0 h1 w
  clear h
  go_enter Tryz.func53, Tryz.ntmps53
  go_wp2_with (go_at_call 103; refine (HU.out _).mono ?_; rintro e w1 ⟨rfl, hg_w1⟩; have ar0 : w1.cell? ⟨w.heap.size + 1, 0, none⟩ = some (.int .i64 0) := hg_w1.c; have arz0 : w1.frozen? ⟨w.heap.size + 1, 0, none⟩ = false := hg_w1.z; have arA0 := (fun ob => cell_alloc ob ar0); have arB0 : ∀ c t, (w1.alloc (.cells c t)).frozen? ⟨w.heap.size + 1, 0, none⟩ = false := (fun c t => fz_alloc arz0); have ar1 : w1.cell? ⟨w.heap.size + 1, 1, none⟩ = some (.int .i64 0) := hg_w1.c; have arz1 : w1.frozen? ⟨w.heap.size + 1, 1, none⟩ = false := hg_w1.z; have arA1 := (fun ob => cell_alloc ob ar1); have arB1 : ∀ c t, (w1.alloc (.cells c t)).frozen? ⟨w.heap.size + 1, 1, none⟩ = false := (fun c t => fz_alloc arz1); have ar2 : w1.cell? ⟨w.heap.size + 1, 2, none⟩ = some (.int .i64 0) := hg_w1.c; have arz2 : w1.frozen? ⟨w.heap.size + 1, 2, none⟩ = false := hg_w1.z; have arA2 := (fun ob => cell_alloc ob ar2); have arB2 : ∀ c t, (w1.alloc (.cells c t)).frozen? ⟨w.heap.size + 1, 2, none⟩ = false := (fun c t => fz_alloc arz2); have ar3 : w1.cell? ⟨w.heap.size + 1, 3, none⟩ = some (.int .u64 0) := hg_w1.c; have arz3 : w1.frozen? ⟨w.heap.size + 1, 3, none⟩ = false := hg_w1.z; have arA3 := (fun ob => cell_alloc ob ar3); have arB3 : ∀ c t, (w1.alloc (.cells c t)).frozen? ⟨w.heap.size + 1, 3, none⟩ = false := (fun c t => fz_alloc arz3); have ar4 : w1.cell? ⟨w.heap.size + 1, 4, none⟩ = some (.int .u64 0) := hg_w1.c; have arz4 : w1.frozen? ⟨w.heap.size + 1, 4, none⟩ = false := hg_w1.z; have arA4 := (fun ob => cell_alloc ob ar4); have arB4 : ∀ c t, (w1.alloc (.cells c t)).frozen? ⟨w.heap.size + 1, 4, none⟩ = false := (fun c t => fz_alloc arz4); have ar5 : w1.cell? ⟨w.heap.size + 1, 5, none⟩ = some (.bool false) := hg_w1.c; have arz5 : w1.frozen? ⟨w.heap.size + 1, 5, none⟩ = false := hg_w1.z; have arA5 := (fun ob => cell_alloc ob ar5); have arB5 : ∀ c t, (w1.alloc (.cells c t)).frozen? ⟨w.heap.size + 1, 5, none⟩ = false := (fun c t => fz_alloc arz5); have ar6 : w1.cell? ⟨w.heap.size + 1, 6, none⟩ = some (.int .i64 0) := hg_w1.c; have arz6 : w1.frozen? ⟨w.heap.size + 1, 6, none⟩ = false := hg_w1.z; have arA6 := (fun ob => cell_alloc ob ar6); have arB6 : ∀ c t, (w1.alloc (.cells c t)).frozen? ⟨w.heap.size + 1, 6, none⟩ = false := (fun c t => fz_alloc arz6))
  refine bodyPost_ret (v := .agg #[.int .i64 0, .int .i64 0, .int .i64 4, .int .u64 0, .int .u64 0, .bool false, .int .i64 0]) (by simp [results, Tryz.results53, go_sem, arA0, arA1, arA2, arA3, arA4, arA5, arA6]) rfl ⟨rfl, ?_⟩
  exact Gr.g

end Go.Proofs.YtkflpogmhailhaaGreatDoor

/- impl's sum, difference, product, pack, combine, calculate: the ways through them. -/
set_option linter.unusedVariables false
set_option linter.unusedSimpArgs false
namespace Go.Proofs.YtkflpogmhailhaaGreatDoor
open Go.RowKit


set_option maxRecDepth 100000 in
set_option maxHeartbeats 1000000 in
theorem pack_0 (p mn mx md : Int) (k : Nat) (s e mh ml : Int) (st : Bool) (z : Int) (HZ : Hid (∀ w, Calls Tryz.prog 85 #[.agg #[.int .i64 p, .int .i64 mn, .int .i64 mx], .int .i64 s] w fun e w' => e = .returned (.int .u64 z) ∧ Gr w w')) (w : World) :
    Calls Tryz.prog 72 #[.agg #[.int .i64 p, .int .i64 mn, .int .i64 mx, .int .i64 md, .func (.func k) #[] #[]], .agg #[.int .i64 s, .int .i64 e, .int .i64 0, .int .u64 mh, .int .u64 ml, .bool st, .int .i64 0]] w fun e w' => e = .returned (.agg #[.int .u64 z, .int .i64 0]) ∧ Gr w w' := by
  go_enter Tryz.func72, Tryz.ntmps72
  go_wp2_with (go_at_call 85; refine (HZ.out _).mono ?_; rintro e w1 ⟨rfl, hg_w1⟩; have ar0 : w1.cell? ⟨w.heap.size + 1 + 1, 0, none⟩ = some (.int .u64 0) := hg_w1.c; have arz0 : w1.frozen? ⟨w.heap.size + 1 + 1, 0, none⟩ = false := hg_w1.z; have ar1 : w1.cell? ⟨w.heap.size + 1 + 1, 1, none⟩ = some (.int .i64 0) := hg_w1.c; have arz1 : w1.frozen? ⟨w.heap.size + 1 + 1, 1, none⟩ = false := hg_w1.z)
  refine bodyPost_ret (v := .agg #[.int .u64 z, .int .i64 0]) (by simp [results, Tryz.results72, go_sem, ar0, ar1]) rfl ⟨rfl, ?_⟩
  exact Gr.g

set_option maxRecDepth 100000 in
set_option maxHeartbeats 1000000 in
theorem pack_2f (p mn mx md : Int) (k : Nat) (s e mh ml : Int) (st : Bool) (fl z : Int) (HZ : Hid (∀ w, Calls Tryz.prog 84 #[.agg #[.int .i64 p, .int .i64 mn, .int .i64 mx], .int .i64 s] w fun e w' => e = .returned (.int .u64 z) ∧ Gr w w')) (w : World) :
    Calls Tryz.prog 72 #[.agg #[.int .i64 p, .int .i64 mn, .int .i64 mx, .int .i64 md, .func (.func k) #[] #[]], .agg #[.int .i64 s, .int .i64 e, .int .i64 2, .int .u64 mh, .int .u64 ml, .bool st, .int .i64 fl]] w fun e w' => e = .returned (.agg #[.int .u64 z, .int .i64 fl]) ∧ Gr w w' := by
  go_enter Tryz.func72, Tryz.ntmps72
  go_wp2
  go_region_held3 (fun w' => w'.cell? ⟨w.heap.size, 0, none⟩ = some (.int .i64 p) ∧ w'.cell? ⟨w.heap.size, 1, none⟩ = some (.int .i64 mn) ∧ w'.cell? ⟨w.heap.size, 2, none⟩ = some (.int .i64 mx) ∧ w'.cell? ⟨w.heap.size + 1, 0, none⟩ = some (.int .i64 s) ∧ w'.cell? ⟨w.heap.size + 1, 6, none⟩ = some (.int .i64 fl))
    ((go_split_ands; (repeat' apply And.intro) <;> exact kl))
    (first | (go_at_call 84; refine (HZ.out _).mono ?_; rintro e w1 ⟨rfl, hg_w1⟩; have ar0 : w1.cell? ⟨w.heap.size + 1 + 1, 0, none⟩ = some (.int .u64 0) := hg_w1.c; have arz0 : w1.frozen? ⟨w.heap.size + 1 + 1, 0, none⟩ = false := hg_w1.z; have ar1 : w1.cell? ⟨w.heap.size + 1 + 1, 1, none⟩ = some (.int .i64 0) := hg_w1.c; have arz1 : w1.frozen? ⟨w.heap.size + 1 + 1, 1, none⟩ = false := hg_w1.z))
  all_goals (try go_split_ands)
  all_goals go_wp2
  all_goals
    refine bodyPost_ret (v := .agg #[.int .u64 z, .int .i64 fl]) (by simp [results, Tryz.results72, go_sem, ar0, ar1]) rfl ⟨rfl, ?_⟩
    exact Gr.g

theorem pack_2 (p mn mx md : Int) (k : Nat) (s e mh ml : Int) (st : Bool) (z : Int) (HZ : Hid (∀ w, Calls Tryz.prog 84 #[.agg #[.int .i64 p, .int .i64 mn, .int .i64 mx], .int .i64 s] w fun e w' => e = .returned (.int .u64 z) ∧ Gr w w')) (w : World) :
    Calls Tryz.prog 72 #[.agg #[.int .i64 p, .int .i64 mn, .int .i64 mx, .int .i64 md, .func (.func k) #[] #[]], .agg #[.int .i64 s, .int .i64 e, .int .i64 2, .int .u64 mh, .int .u64 ml, .bool st, .int .i64 0]] w fun e w' => e = .returned (.agg #[.int .u64 z, .int .i64 0]) ∧ Gr w w' := pack_2f p mn mx md k s e mh ml st 0 z HZ w

set_option maxRecDepth 100000 in
set_option maxHeartbeats 1000000 in
theorem pack_3 (p mn mx md : Int) (k : Nat) (s e mh ml : Int) (st : Bool) (z : Int) (HZ : Hid (∀ w, Calls Tryz.prog 81 #[.agg #[.int .i64 p, .int .i64 mn, .int .i64 mx]] w fun e w' => e = .returned (.int .u64 z) ∧ Gr w w')) (w : World) :
    Calls Tryz.prog 72 #[.agg #[.int .i64 p, .int .i64 mn, .int .i64 mx, .int .i64 md, .func (.func k) #[] #[]], .agg #[.int .i64 s, .int .i64 e, .int .i64 3, .int .u64 mh, .int .u64 ml, .bool st, .int .i64 0]] w fun e w' => e = .returned (.agg #[.int .u64 z, .int .i64 0]) ∧ Gr w w' := by
  go_enter Tryz.func72, Tryz.ntmps72
  go_wp2_with (go_at_call 81; refine (HZ.out _).mono ?_; rintro e w1 ⟨rfl, hg_w1⟩; have ar0 : w1.cell? ⟨w.heap.size + 1 + 1, 0, none⟩ = some (.int .u64 0) := hg_w1.c; have arz0 : w1.frozen? ⟨w.heap.size + 1 + 1, 0, none⟩ = false := hg_w1.z; have ar1 : w1.cell? ⟨w.heap.size + 1 + 1, 1, none⟩ = some (.int .i64 0) := hg_w1.c; have arz1 : w1.frozen? ⟨w.heap.size + 1 + 1, 1, none⟩ = false := hg_w1.z)
  refine bodyPost_ret (v := .agg #[.int .u64 z, .int .i64 0]) (by simp [results, Tryz.results72, go_sem, ar0, ar1]) rfl ⟨rfl, ?_⟩
  exact Gr.g

set_option maxRecDepth 100000 in
set_option maxHeartbeats 1000000 in
theorem pack_4 (p mn mx md : Int) (k : Nat) (s e mh ml : Int) (st : Bool) (z : Int) (HZ : Hid (∀ w, Calls Tryz.prog 70 #[.agg #[.int .i64 p, .int .i64 mn, .int .i64 mx]] w fun e w' => e = .returned (.agg #[.int .u64 z, .int .i64 1]) ∧ Gr w w')) (w : World) :
    Calls Tryz.prog 72 #[.agg #[.int .i64 p, .int .i64 mn, .int .i64 mx, .int .i64 md, .func (.func k) #[] #[]], .agg #[.int .i64 s, .int .i64 e, .int .i64 4, .int .u64 mh, .int .u64 ml, .bool st, .int .i64 0]] w fun e w' => e = .returned (.agg #[.int .u64 z, .int .i64 1]) ∧ Gr w w' := by
  go_enter Tryz.func72, Tryz.ntmps72
  go_wp2_with (go_at_call 70; refine (HZ.out _).mono ?_; rintro e w1 ⟨rfl, hg_w1⟩; have ar0 : w1.cell? ⟨w.heap.size + 1 + 1, 0, none⟩ = some (.int .u64 0) := hg_w1.c; have arz0 : w1.frozen? ⟨w.heap.size + 1 + 1, 0, none⟩ = false := hg_w1.z; have ar1 : w1.cell? ⟨w.heap.size + 1 + 1, 1, none⟩ = some (.int .i64 0) := hg_w1.c; have arz1 : w1.frozen? ⟨w.heap.size + 1 + 1, 1, none⟩ = false := hg_w1.z)
  refine bodyPost_ret (v := .agg #[.int .u64 z, .int .i64 1]) (by simp [results, Tryz.results72, go_sem, ar0, ar1]) rfl ⟨rfl, ?_⟩
  exact Gr.g

set_option maxRecDepth 100000 in
set_option maxHeartbeats 1000000 in
theorem pack_1f (p mn mx md : Int) (k : Nat) (s e mh ml : Int) (st : Bool) (of : Int) (Q : Int → Int → Prop) (G : Int → Int) (hG : Hid (∀ z fl, Q z fl → bits .or .i64 fl of = G fl)) (HR : Hid (∀ w, Calls Tryz.prog 114 #[.agg #[.int .i64 p, .int .i64 mn, .int .i64 mx, .int .i64 md, .func (.func k) #[] #[]], .int .i64 s, .int .i64 e, .agg #[.int .u64 mh, .int .u64 ml], .bool st] w fun e w' => ∃ z fl, Q z fl ∧ e = .returned (.agg #[.int .u64 z, .int .i64 fl]) ∧ Gr w w')) (w : World) :
    Calls Tryz.prog 72 #[.agg #[.int .i64 p, .int .i64 mn, .int .i64 mx, .int .i64 md, .func (.func k) #[] #[]], .agg #[.int .i64 s, .int .i64 e, .int .i64 1, .int .u64 mh, .int .u64 ml, .bool st, .int .i64 of]] w fun e w' => ∃ z fl, Q z fl ∧ e = .returned (.agg #[.int .u64 z, .int .i64 (G fl)]) ∧ Gr w w' := by
  go_enter Tryz.func72, Tryz.ntmps72
  go_upto_region 6 with (go_at_call 114; refine (HR.out _).mono ?_; rintro e w1 ⟨z, fl, hq, rfl, hg_w1⟩; have ar0 : w1.cell? ⟨w.heap.size + 1 + 1, 0, none⟩ = some (.int .u64 0) := hg_w1.c; have arz0 : w1.frozen? ⟨w.heap.size + 1 + 1, 0, none⟩ = false := hg_w1.z; have ar1 : w1.cell? ⟨w.heap.size + 1 + 1, 1, none⟩ = some (.int .i64 0) := hg_w1.c; have arz1 : w1.frozen? ⟨w.heap.size + 1 + 1, 1, none⟩ = false := hg_w1.z; have ax6 : w1.cell? ⟨w.heap.size + 1, 6, none⟩ = some (.int .i64 of) := hg_w1.c; have hz1 := cell_size ar0; have hor := hG.out z fl hq)
  obtain ⟨w2, hw2⟩ : ∃ w2, w1.alloc (.cells #[.int .u64 z, .int .i64 fl] 27) = w2 := ⟨_, rfl⟩
  have hg_w2 : Gr w1 w2 := by rw [← hw2]; exact (Gr.refl _).alloc _ _
  have x0 : w2.cell? ⟨w1.heap.size, 0, none⟩ = some (.int .u64 z) := by rw [← hw2]; simp [go_sem]
  have x1 : w2.cell? ⟨w1.heap.size, 1, none⟩ = some (.int .i64 fl) := by rw [← hw2]; simp [go_sem]
  have xz1 : w2.frozen? ⟨w1.heap.size, 1, none⟩ = false := by rw [← hw2]; simp [go_sem]
  have hz2 : w1.heap.size < w2.heap.size := by rw [← hw2]; simp
  rw [hw2]
  clear hw2
  have br0 : w2.cell? ⟨w.heap.size + 1 + 1, 0, none⟩ = some (.int .u64 0) := hg_w2.c; have brz0 : w2.frozen? ⟨w.heap.size + 1 + 1, 0, none⟩ = false := hg_w2.z; have br1 : w2.cell? ⟨w.heap.size + 1 + 1, 1, none⟩ = some (.int .i64 0) := hg_w2.c; have brz1 : w2.frozen? ⟨w.heap.size + 1 + 1, 1, none⟩ = false := hg_w2.z
  have bx6 : w2.cell? ⟨w.heap.size + 1, 6, none⟩ = some (.int .i64 of) := hg_w2.c
  have hgw : Gr w w2 := Gr.g
  go_wp2
  refine bodyPost_ret (v := .agg #[.int .u64 z, .int .i64 (G fl)]) (by simp [results, Tryz.results72, go_sem, br0, br1]) rfl ⟨z, fl, hq, rfl, ?_⟩
  exact Gr.g

theorem or_flag {fl : Int} (h : fl = 0 ∨ fl = 16 ∨ fl = 20 ∨ fl = 24) : bits .or .i64 fl 0 = fl := by rcases h with rfl | rfl | rfl | rfl <;> decide +kernel

theorem pack_1 (p mn mx md : Int) (k : Nat) (s e mh ml : Int) (st : Bool) (Q : Int → Int → Prop) (hQ : ∀ z fl, Q z fl → fl = 0 ∨ fl = 16 ∨ fl = 20 ∨ fl = 24) (HR : Hid (∀ w, Calls Tryz.prog 114 #[.agg #[.int .i64 p, .int .i64 mn, .int .i64 mx, .int .i64 md, .func (.func k) #[] #[]], .int .i64 s, .int .i64 e, .agg #[.int .u64 mh, .int .u64 ml], .bool st] w fun e w' => ∃ z fl, Q z fl ∧ e = .returned (.agg #[.int .u64 z, .int .i64 fl]) ∧ Gr w w')) (w : World) :
    Calls Tryz.prog 72 #[.agg #[.int .i64 p, .int .i64 mn, .int .i64 mx, .int .i64 md, .func (.func k) #[] #[]], .agg #[.int .i64 s, .int .i64 e, .int .i64 1, .int .u64 mh, .int .u64 ml, .bool st, .int .i64 0]] w fun e w' => ∃ z fl, Q z fl ∧ e = .returned (.agg #[.int .u64 z, .int .i64 fl]) ∧ Gr w w' :=
  pack_1f p mn mx md k s e mh ml st 0 Q (fun fl => fl) (fun z fl h => or_flag (hQ z fl h)) HR w

set_option maxRecDepth 100000 in
set_option maxHeartbeats 1000000 in
theorem combine_nan (p mn mx md : Int) (k : Nat) (sx ex cx xh xl sy ey cy yh yl : Int) (tx ty : Bool) (own : Nat) (m : Int) (hm : max cx cy = m) (h3 : 3 ≤ m) (w : World) :
    Calls Tryz.prog 71 #[.agg #[.int .i64 p, .int .i64 mn, .int .i64 mx, .int .i64 md, .func (.func k) #[] #[]], .func (.func own) #[] #[], .agg #[.int .i64 sx, .int .i64 ex, .int .i64 cx, .int .u64 xh, .int .u64 xl, .bool tx, .int .i64 0], .agg #[.int .i64 sy, .int .i64 ey, .int .i64 cy, .int .u64 yh, .int .u64 yl, .bool ty, .int .i64 0]] w fun e w' => e = .returned (.agg #[.int .i64 0, .int .i64 0, .int .i64 m, .int .u64 0, .int .u64 0, .bool false, .int .i64 0]) ∧ Gr w w' := by
  go_enter Tryz.func71, Tryz.ntmps71
  go_wp2
  go_returns
  exact ⟨rfl, Gr.g⟩

end Go.Proofs.YtkflpogmhailhaaGreatDoor
