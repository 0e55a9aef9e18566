/- impl.calculate. -/
import Derived.Test.YtkflpogmhailhaaDoorB7
set_option linter.unusedVariables false
set_option linter.unusedSimpArgs false
namespace Go.Proofs.YtkflpogmhailhaaDoor
open Go.RowKit


set_option maxRecDepth 1000000 in
set_option maxHeartbeats 4000000 in
theorem calc_no (p mn mx md nan f mode a b : Int) {w : World} (HF : Hid (∀ w', Gr w w' → Calls Tryd.prog 58 #[.int .i64 f, .int .i64 mode] w' fun x w'' => x = .returned (.tuple #[.agg #[.int .i64 p, .int .i64 mn, .int .i64 mx, .int .i64 md, Value.nilFunc], .bool false]) ∧ Gr w' w''))
    (HN : Hid (∀ w, Calls Tryd.prog 59 #[.agg #[.int .i64 p, .int .i64 mn, .int .i64 mx]] w fun e w' => e = .returned (.agg #[.int .u64 nan, .int .i64 1]) ∧ Gr w w')) (own : Nat) :
    Calls Tryd.prog 38 #[.int .i64 f, .int .i64 mode, .func (.func own) #[] #[], .int .u64 a, .int .u64 b] w fun e w' => e = .returned (.agg #[.int .u64 nan, .int .i64 1]) ∧ Gr w w' := by
  go_enter Tryd.func38, Tryd.ntmps38
  go_wp2_with (first
    | (go_at_call 58; refine (HF.out _ Gr.g).mono ?_; rintro x w1 ⟨rfl, hg_w1⟩; have kr0 : w1.cell? ⟨w.heap.size, 0, none⟩ = some (.int .u64 0) := hg_w1.c; have krz0 : w1.frozen? ⟨w.heap.size, 0, none⟩ = false := hg_w1.z; have kr1 : w1.cell? ⟨w.heap.size, 1, none⟩ = some (.int .i64 0) := hg_w1.c; have krz1 : w1.frozen? ⟨w.heap.size, 1, none⟩ = false := hg_w1.z)
    | (go_at_call 59; refine (HN.out _).mono ?_; rintro x w2 ⟨rfl, hg_w2⟩; have br0 : w2.cell? ⟨w.heap.size, 0, none⟩ = some (.int .u64 0) := hg_w2.c; have brz0 : w2.frozen? ⟨w.heap.size, 0, none⟩ = false := hg_w2.z; have br1 : w2.cell? ⟨w.heap.size, 1, none⟩ = some (.int .i64 0) := hg_w2.c; have brz1 : w2.frozen? ⟨w.heap.size, 1, none⟩ = false := hg_w2.z))
  refine bodyPost_ret (v := .agg #[.int .u64 nan, .int .i64 1]) (by simp [results, Tryd.results38, go_sem, br0, br1]) rfl ⟨rfl, ?_⟩
  exact Gr.g


set_option maxRecDepth 1000000 in
set_option maxHeartbeats 4000000 in
theorem calc_ok (p mn mx md f : Int) (k own : Nat) (a b sx ex cx xh xl sy ey cy yh yl : Int) (tx ty : Bool) {w : World} (HF : Hid (∀ w', Gr w w' → Calls Tryd.prog 58 #[.int .i64 f, .int .i64 md] w' fun x w'' => x = .returned (.tuple #[.agg #[.int .i64 p, .int .i64 mn, .int .i64 mx, .int .i64 md, .func (.func k) #[] #[]], .bool true]) ∧ Gr w' w''))
    (HA : Hid (∀ w, Calls Tryd.prog 61 #[.agg #[.int .i64 p, .int .i64 mn, .int .i64 mx], .int .u64 a] w fun e w' => e = .returned (.agg #[.int .i64 sx, .int .i64 ex, .int .i64 cx, .int .u64 xh, .int .u64 xl, .bool tx, .int .i64 0]) ∧ Gr w w')) (HB : Hid (∀ w, Calls Tryd.prog 61 #[.agg #[.int .i64 p, .int .i64 mn, .int .i64 mx], .int .u64 b] w fun e w' => e = .returned (.agg #[.int .i64 sy, .int .i64 ey, .int .i64 cy, .int .u64 yh, .int .u64 yl, .bool ty, .int .i64 0]) ∧ Gr w w')) (Q : Int → Int → Int → Int → Int → Bool → Prop) (HC : Hid (∀ w, Calls Tryd.prog 60 #[.agg #[.int .i64 p, .int .i64 mn, .int .i64 mx, .int .i64 md, .func (.func k) #[] #[]], .func (.func own) #[] #[], .agg #[.int .i64 sx, .int .i64 ex, .int .i64 cx, .int .u64 xh, .int .u64 xl, .bool tx, .int .i64 0], .agg #[.int .i64 sy, .int .i64 ey, .int .i64 cy, .int .u64 yh, .int .u64 yl, .bool ty, .int .i64 0]] w fun e w' => ∃ os oe oc oh ol ot, Q os oe oc oh ol ot ∧ e = .returned (.agg #[.int .i64 os, .int .i64 oe, .int .i64 oc, .int .u64 oh, .int .u64 ol, .bool ot, .int .i64 0]) ∧ Gr w w'))
    (R : Int → Int → Prop) (HP : Hid (∀ os oe oc oh ol ot w, Q os oe oc oh ol ot → Calls Tryd.prog 62 #[.agg #[.int .i64 p, .int .i64 mn, .int .i64 mx, .int .i64 md, .func (.func k) #[] #[]], .agg #[.int .i64 os, .int .i64 oe, .int .i64 oc, .int .u64 oh, .int .u64 ol, .bool ot, .int .i64 0]] w fun e w' => ∃ z fl, R z fl ∧ e = .returned (.agg #[.int .u64 z, .int .i64 fl]) ∧ Gr w w')) :
    Calls Tryd.prog 38 #[.int .i64 f, .int .i64 md, .func (.func own) #[] #[], .int .u64 a, .int .u64 b] w fun e w' => ∃ z fl, R z fl ∧ e = .returned (.agg #[.int .u64 z, .int .i64 fl]) ∧ Gr w w' := by
  go_enter Tryd.func38, Tryd.ntmps38
  go_wp2_with (go_at_call 58; refine (HF.out _ Gr.g).mono ?_; rintro x w1 ⟨rfl, hg_w1⟩; have kr0 : w1.cell? ⟨w.heap.size, 0, none⟩ = some (.int .u64 0) := hg_w1.c; have krz0 : w1.frozen? ⟨w.heap.size, 0, none⟩ = false := hg_w1.z; have kr1 : w1.cell? ⟨w.heap.size, 1, none⟩ = some (.int .i64 0) := hg_w1.c; have krz1 : w1.frozen? ⟨w.heap.size, 1, none⟩ = false := hg_w1.z; have hz1 := cell_size kr0)
  go_region_held3 (fun w' => w'.cell? ⟨w1.heap.size, 0, none⟩ = some (.int .i64 p) ∧ w'.cell? ⟨w1.heap.size, 1, none⟩ = some (.int .i64 mn) ∧ w'.cell? ⟨w1.heap.size, 2, none⟩ = some (.int .i64 mx) ∧ w'.cell? ⟨w1.heap.size, 3, none⟩ = some (.int .i64 md) ∧ w'.cell? ⟨w1.heap.size, 4, none⟩ = some (.func (.func k) #[] #[]))
    ((go_split_ands; (repeat' apply And.intro) <;> (repeat' (first | (with_reducible assumption) | (with_reducible refine has_of (by with_reducible assumption)) | (with_reducible refine Gr.old (by with_reducible assumption) ?_) | (with_reducible refine cell_swap _ ?_ (by with_reducible assumption); omega) | (with_reducible refine cell_setSame ?_) | (with_reducible refine has_old (by with_reducible assumption) ?_) | (with_reducible refine has_set ?_) | (with_reducible refine cell_setOff ?_ ?_; omega) | (with_reducible refine cell_setNew ?_ ?_; (dsimp only; omega)) | (simp [go_sem]; done) | (simp [go_sem]; rfl) | (with_reducible refine cell_alloc _ ?_) | (with_reducible refine cell_drew ?_) | (with_reducible refine has_alloc _ ?_) | (with_reducible refine fz_old (by with_reducible assumption) ?_) | (with_reducible refine fz_alloc ?_) | (with_reducible refine fz_set ?_) | (with_reducible refine fz_drew ?_)))))
    (first
      | (go_at_call 61; first | (with_reducible refine (HA.out _).mono ?_; rintro e w2 ⟨rfl, hg_w2⟩; have cr0 : w2.cell? ⟨w.heap.size, 0, none⟩ = some (.int .u64 0) := hg_w2.c; have crz0 : w2.frozen? ⟨w.heap.size, 0, none⟩ = false := hg_w2.z; have cr1 : w2.cell? ⟨w.heap.size, 1, none⟩ = some (.int .i64 0) := hg_w2.c; have crz1 : w2.frozen? ⟨w.heap.size, 1, none⟩ = false := hg_w2.z) | (with_reducible refine (HB.out _).mono ?_; rintro e w2 ⟨rfl, hg_w2⟩; have cr0 : w2.cell? ⟨w.heap.size, 0, none⟩ = some (.int .u64 0) := hg_w2.c; have crz0 : w2.frozen? ⟨w.heap.size, 0, none⟩ = false := hg_w2.z; have cr1 : w2.cell? ⟨w.heap.size, 1, none⟩ = some (.int .i64 0) := hg_w2.c; have crz1 : w2.frozen? ⟨w.heap.size, 1, none⟩ = false := hg_w2.z))
      | (go_at_call 60; refine (HC.out _).mono ?_; rintro e w3 ⟨os, oe, oc, oh, ol, ot, hq, rfl, hg_w3⟩; have dr0 : w3.cell? ⟨w.heap.size, 0, none⟩ = some (.int .u64 0) := hg_w3.c; have drz0 : w3.frozen? ⟨w.heap.size, 0, none⟩ = false := hg_w3.z; have dr1 : w3.cell? ⟨w.heap.size, 1, none⟩ = some (.int .i64 0) := hg_w3.c; have drz1 : w3.frozen? ⟨w.heap.size, 1, none⟩ = false := hg_w3.z)
      | (go_at_call 62; refine (HP.out _ _ _ _ _ _ _ hq).mono ?_; rintro e w4 ⟨z, fl, hr, rfl, hg_w4⟩; have er0 : w4.cell? ⟨w.heap.size, 0, none⟩ = some (.int .u64 0) := hg_w4.c; have erz0 : w4.frozen? ⟨w.heap.size, 0, none⟩ = false := hg_w4.z; have er1 : w4.cell? ⟨w.heap.size, 1, none⟩ = some (.int .i64 0) := hg_w4.c; have erz1 : w4.frozen? ⟨w.heap.size, 1, none⟩ = false := hg_w4.z))
  all_goals (try go_split_ands)
  all_goals go_wp2
  all_goals
    refine bodyPost_ret (v := .agg #[.int .u64 z, .int .i64 fl]) (by simp [results, Tryd.results38, go_sem, er0, er1]) rfl ⟨z, fl, hr, rfl, ?_⟩
    exact Gr.g


end Go.Proofs.YtkflpogmhailhaaDoor

/- impl's Add and Mul over calculate. -/
set_option linter.unusedVariables false
set_option linter.unusedSimpArgs false
namespace Go.Proofs.YtkflpogmhailhaaDoor
open Go.RowKit

set_option maxRecDepth 1000000 in
set_option maxHeartbeats 4000000 in
theorem implAdd_of (f mode a b : Int) (R : Int → Int → Prop) {w : World} (HC : Hid (∀ w', Gr w w' → Calls Tryd.prog 38 #[.int .i64 f, .int .i64 mode, .func (.func 51) #[] #[], .int .u64 a, .int .u64 b] w' fun e w'' => ∃ z fl, R z fl ∧ e = .returned (.agg #[.int .u64 z, .int .i64 fl]) ∧ Gr w' w'')) :
    Calls Tryd.prog 18 #[.int .i64 f, .int .i64 mode, .int .u64 a, .int .u64 b] w fun e w' => ∃ z fl, R z fl ∧ e = .returned (.agg #[.int .u64 z, .int .i64 fl]) ∧ Gr w w' := by
  go_enter Tryd.func18, Tryd.ntmps18
  go_wp2_with (go_at_call 38; refine (HC.out _ Gr.g).mono ?_; rintro e w1 ⟨z, fl, hr, rfl, hg_w1⟩; have ar0 : w1.cell? ⟨w.heap.size, 0, none⟩ = some (.int .u64 0) := hg_w1.c; have arz0 : w1.frozen? ⟨w.heap.size, 0, none⟩ = false := hg_w1.z; have ar1 : w1.cell? ⟨w.heap.size, 1, none⟩ = some (.int .i64 0) := hg_w1.c; have arz1 : w1.frozen? ⟨w.heap.size, 1, none⟩ = false := hg_w1.z)
  refine bodyPost_ret (v := .agg #[.int .u64 z, .int .i64 fl]) (by simp [results, Tryd.results18, go_sem, ar0, ar1]) rfl ⟨z, fl, hr, rfl, ?_⟩
  exact Gr.g


set_option maxRecDepth 1000000 in
set_option maxHeartbeats 4000000 in
theorem implMul_of (f mode a b : Int) (R : Int → Int → Prop) {w : World} (HC : Hid (∀ w', Gr w w' → Calls Tryd.prog 38 #[.int .i64 f, .int .i64 mode, .func (.func 54) #[] #[], .int .u64 a, .int .u64 b] w' fun e w'' => ∃ z fl, R z fl ∧ e = .returned (.agg #[.int .u64 z, .int .i64 fl]) ∧ Gr w' w'')) :
    Calls Tryd.prog 20 #[.int .i64 f, .int .i64 mode, .int .u64 a, .int .u64 b] w fun e w' => ∃ z fl, R z fl ∧ e = .returned (.agg #[.int .u64 z, .int .i64 fl]) ∧ Gr w w' := by
  go_enter Tryd.func20, Tryd.ntmps20
  go_wp2_with (go_at_call 38; refine (HC.out _ Gr.g).mono ?_; rintro e w1 ⟨z, fl, hr, rfl, hg_w1⟩; have ar0 : w1.cell? ⟨w.heap.size, 0, none⟩ = some (.int .u64 0) := hg_w1.c; have arz0 : w1.frozen? ⟨w.heap.size, 0, none⟩ = false := hg_w1.z; have ar1 : w1.cell? ⟨w.heap.size, 1, none⟩ = some (.int .i64 0) := hg_w1.c; have arz1 : w1.frozen? ⟨w.heap.size, 1, none⟩ = false := hg_w1.z)
  refine bodyPost_ret (v := .agg #[.int .u64 z, .int .i64 fl]) (by simp [results, Tryd.results20, go_sem, ar0, ar1]) rfl ⟨z, fl, hr, rfl, ?_⟩
  exact Gr.g

end Go.Proofs.YtkflpogmhailhaaDoor
