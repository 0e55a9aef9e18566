/- impl's order, Compare, lesserOf, greaterOf. -/
import Derived.Test.YtfakbjgbbcigpaaDoorL5O
import Derived.Deep.DeepCutAuto
import Derived.Deep.RegionHeld3
set_option linter.unusedVariables false
set_option linter.unusedSimpArgs false
namespace Go.Proofs.YtfakbjgbbcigpaaDoor
open Go.RowKit

set_option maxRecDepth 100000 in
set_option maxHeartbeats 1000000 in
theorem order_signs (sx ex cx xh xl sy ey cy yh yl d : Int) (tx ty : Bool) (hs : sx ≠ sy) (hd : IntKind.i64.wrap (sy - sx) = d) (w : World) :
    Calls Tryd.prog 36 #[.agg #[.int .i64 sx, .int .i64 ex, .int .i64 cx, .int .u64 xh, .int .u64 xl, .bool tx, .int .i64 0], .agg #[.int .i64 sy, .int .i64 ey, .int .i64 cy, .int .u64 yh, .int .u64 yl, .bool ty, .int .i64 0]] w fun e w' => e = .returned (.int .i64 d) ∧ Gr w w' := by
  have c1 : (sx == sy) = false := by simp [hs]
  go_enter Tryd.func36, Tryd.ntmps36
  go_wp2
  go_returns
  exact ⟨by first | rfl | rw [hd], Gr.g⟩

set_option maxRecDepth 100000 in
set_option maxHeartbeats 1000000 in
theorem order_sizes (s ex cx xh xl ey cy yh yl c1 c2 c3 d r : Int) (tx ty : Bool) (h1 : cmpI cx cy = c1) (h2 : cmpI ex ey = c2) (h3 : cmpI xl yl = c3) (hd : or3 c1 c2 c3 = d) (hr : s = 1 ∧ wrap64 (-d) = r ∨ s ≠ 1 ∧ d = r) (w : World) :
    Calls Tryd.prog 36 #[.agg #[.int .i64 s, .int .i64 ex, .int .i64 cx, .int .u64 xh, .int .u64 xl, .bool tx, .int .i64 0], .agg #[.int .i64 s, .int .i64 ey, .int .i64 cy, .int .u64 yh, .int .u64 yl, .bool ty, .int .i64 0]] w fun e w' => e = .returned (.int .i64 r) ∧ Gr w w' := by
  have H1 : Hid (∀ w, Calls Tryd.prog 79 #[.int .i64 cx, .int .i64 cy] w fun e w' => e = .returned (.int .i64 c1) ∧ w = w') := fun w => h1 ▸ cmpInt_any cx cy w
  have H2 : Hid (∀ w, Calls Tryd.prog 79 #[.int .i64 ex, .int .i64 ey] w fun e w' => e = .returned (.int .i64 c2) ∧ w = w') := fun w => h2 ▸ cmpInt_any ex ey w
  have H3 : Hid (∀ w, Calls Tryd.prog 80 #[.int .u64 xl, .int .u64 yl] w fun e w' => e = .returned (.int .i64 c3) ∧ w = w') := fun w => h3 ▸ cmpWord_any xl yl w
  have H4 : Hid (∀ (b cap : Nat) (w : World), w.cell? ⟨b, 0, none⟩ = some (.int .i64 c1) → w.cell? ⟨b, 1, none⟩ = some (.int .i64 c2) → w.cell? ⟨b, 2, none⟩ = some (.int .i64 c3) → 3 ≤ cap → Calls Tryd.prog 78 #[.slice (some ⟨b, 0, none⟩) 3 cap] w fun e w' => e = .returned (.int .i64 d) ∧ w = w') := fun b cap w a1 a2 a3 a4 => hd ▸ cmpOr_any c1 c2 c3 b cap w a1 a2 a3 a4
  clear h1 h2 h3 hd
  rcases hr with ⟨rfl, hr⟩ | ⟨hs, rfl⟩
  · go_enter Tryd.func36, Tryd.ntmps36
    go_wp2
    go_region_held3 (fun w' => w'.cell? ⟨w.heap.size, 1, none⟩ = some (.int .i64 ex) ∧ w'.cell? ⟨w.heap.size, 2, none⟩ = some (.int .i64 cx) ∧ w'.cell? ⟨w.heap.size, 4, none⟩ = some (.int .u64 xl) ∧ w'.cell? ⟨w.heap.size + 1, 1, none⟩ = some (.int .i64 ey) ∧ w'.cell? ⟨w.heap.size + 1, 2, none⟩ = some (.int .i64 cy) ∧ w'.cell? ⟨w.heap.size + 1, 4, none⟩ = some (.int .u64 yl))
      ((go_split_ands; (repeat' apply And.intro) <;> (repeat' (first | (with_reducible assumption) | (with_reducible refine has_of (by with_reducible assumption)) | (with_reducible refine Gr.old (by with_reducible assumption) ?_) | (with_reducible refine Gb.old (by with_reducible assumption) ?_) | (with_reducible refine Gb.hs (by with_reducible assumption) ?_) | (with_reducible refine has_old (by with_reducible assumption) ?_) | (with_reducible refine cell_setSame ?_) | (with_reducible refine has_set ?_) | (with_reducible refine cell_setOff ?_ ?_; omega) | (with_reducible refine cell_setNew ?_ ?_; (dsimp only; omega)) | (simp [go_sem]; done) | (with_reducible refine cell_alloc _ ?_) | (with_reducible refine cell_drew ?_) | (with_reducible refine has_alloc _ ?_) | (with_reducible refine fz_old (by with_reducible assumption) ?_) | (with_reducible refine Gb.fh (by with_reducible assumption) (by with_reducible assumption) ?_) | (with_reducible refine fz_alloc ?_) | (with_reducible refine fz_set ?_) | (with_reducible refine fz_drew ?_) | go_size))))
      (first
        | (go_at_call 79; first | (with_reducible refine (H1.out _).mono ?_; rintro e wk ⟨rfl, hw⟩; subst hw) | (with_reducible refine (H2.out _).mono ?_; rintro e wk ⟨rfl, hw⟩; subst hw))
        | (go_at_call 80; with_reducible refine (H3.out _).mono ?_; rintro e wk ⟨rfl, hw⟩; subst hw)
        | (go_at_call 78; refine (H4.out _ _ _ (by simp [go_sem]) (by simp [go_sem]) (by simp [go_sem]) (by decide)).mono ?_; rintro e wk ⟨rfl, hw⟩; subst hw))
    all_goals (try go_split_ands)
    all_goals go_wp2
    all_goals go_returns
    all_goals exact ⟨ret_congr (congrArg (Value.int .i64) hr), Gr.g⟩
  · have c1 : (s == 1) = false := by simp [hs]
    go_enter Tryd.func36, Tryd.ntmps36
    go_wp2
    go_region_held3 (fun w' => w'.cell? ⟨w.heap.size, 1, none⟩ = some (.int .i64 ex) ∧ w'.cell? ⟨w.heap.size, 2, none⟩ = some (.int .i64 cx) ∧ w'.cell? ⟨w.heap.size, 4, none⟩ = some (.int .u64 xl) ∧ w'.cell? ⟨w.heap.size + 1, 1, none⟩ = some (.int .i64 ey) ∧ w'.cell? ⟨w.heap.size + 1, 2, none⟩ = some (.int .i64 cy) ∧ w'.cell? ⟨w.heap.size + 1, 4, none⟩ = some (.int .u64 yl))
      ((go_split_ands; (repeat' apply And.intro) <;> (repeat' (first | (with_reducible assumption) | (with_reducible refine has_of (by with_reducible assumption)) | (with_reducible refine Gr.old (by with_reducible assumption) ?_) | (with_reducible refine Gb.old (by with_reducible assumption) ?_) | (with_reducible refine Gb.hs (by with_reducible assumption) ?_) | (with_reducible refine has_old (by with_reducible assumption) ?_) | (with_reducible refine cell_setSame ?_) | (with_reducible refine has_set ?_) | (with_reducible refine cell_setOff ?_ ?_; omega) | (with_reducible refine cell_setNew ?_ ?_; (dsimp only; omega)) | (simp [go_sem]; done) | (with_reducible refine cell_alloc _ ?_) | (with_reducible refine cell_drew ?_) | (with_reducible refine has_alloc _ ?_) | (with_reducible refine fz_old (by with_reducible assumption) ?_) | (with_reducible refine Gb.fh (by with_reducible assumption) (by with_reducible assumption) ?_) | (with_reducible refine fz_alloc ?_) | (with_reducible refine fz_set ?_) | (with_reducible refine fz_drew ?_) | go_size))))
      (first
        | (go_at_call 79; first | (with_reducible refine (H1.out _).mono ?_; rintro e wk ⟨rfl, hw⟩; subst hw) | (with_reducible refine (H2.out _).mono ?_; rintro e wk ⟨rfl, hw⟩; subst hw))
        | (go_at_call 80; with_reducible refine (H3.out _).mono ?_; rintro e wk ⟨rfl, hw⟩; subst hw)
        | (go_at_call 78; refine (H4.out _ _ _ (by simp [go_sem]) (by simp [go_sem]) (by simp [go_sem]) (by decide)).mono ?_; rintro e wk ⟨rfl, hw⟩; subst hw))
    all_goals (try go_split_ands)
    all_goals go_wp2
    all_goals go_returns
    all_goals exact ⟨rfl, Gr.g⟩
end Go.Proofs.YtfakbjgbbcigpaaDoor
