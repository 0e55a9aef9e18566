/- impl's order of operands. -/
import Derived.Test.YtkflpogmhailhaaGreatDoorR7
import Derived.Test.YtkflpogmhailhaaGreatDoorA7
import Derived.LoopN
import Derived.Deep.DeepCutAuto
import Derived.Deep.RegionHeld3
set_option linter.unusedVariables false
set_option linter.unusedSimpArgs false
namespace Go.Proofs.YtkflpogmhailhaaGreatDoor
open Go.RowKit

theorem isNaNi (a : Int) (w : World) : Calls Tryz.prog 126 #[.int .i64 a] w fun e w' => e = .returned (.bool false) ∧ w = w' := by
  go_enter Tryz.func126, Tryz.ntmps126
  go_wp2
  go_returns
  exact ⟨rfl, rfl⟩
theorem isNaNu (a : Int) (w : World) : Calls Tryz.prog 127 #[.int .u64 a] w fun e w' => e = .returned (.bool false) ∧ w = w' := by
  go_enter Tryz.func127, Tryz.ntmps127
  go_wp2
  go_returns
  exact ⟨rfl, rfl⟩

theorem cmpInt_any (a b : Int) (w : World) : Calls Tryz.prog 105 #[.int .i64 a, .int .i64 b] w fun e w' => e = .returned (.int .i64 (cmpI a b)) ∧ w = w' := by
  rcases Int.lt_trichotomy a b with c | c | c
  · rw [cmpI_lt c]
    go_enter Tryz.func105, Tryz.ntmps105
    go_wp2_with (go_at_call 126; refine (isNaNi _ _).mono ?_; rintro e wk ⟨rfl, hw⟩; subst hw)
    go_returns
    exact ⟨rfl, rfl⟩
  · subst c
    rw [cmpI_self]
    go_enter Tryz.func105, Tryz.ntmps105
    go_wp2_with (go_at_call 126; refine (isNaNi _ _).mono ?_; rintro e wk ⟨rfl, hw⟩; subst hw)
    go_returns
    exact ⟨rfl, rfl⟩
  · rw [cmpI_gt c]
    have c' : decide (a < b) = false := by simp; omega
    go_enter Tryz.func105, Tryz.ntmps105
    go_wp2_with (go_at_call 126; refine (isNaNi _ _).mono ?_; rintro e wk ⟨rfl, hw⟩; subst hw)
    go_returns
    exact ⟨rfl, rfl⟩
theorem cmpWord_any (a b : Int) (w : World) : Calls Tryz.prog 106 #[.int .u64 a, .int .u64 b] w fun e w' => e = .returned (.int .i64 (cmpI a b)) ∧ w = w' := by
  rcases Int.lt_trichotomy a b with c | c | c
  · rw [cmpI_lt c]
    go_enter Tryz.func106, Tryz.ntmps106
    go_wp2_with (go_at_call 127; refine (isNaNu _ _).mono ?_; rintro e wk ⟨rfl, hw⟩; subst hw)
    go_returns
    exact ⟨rfl, rfl⟩
  · subst c
    rw [cmpI_self]
    go_enter Tryz.func106, Tryz.ntmps106
    go_wp2_with (go_at_call 127; refine (isNaNu _ _).mono ?_; rintro e wk ⟨rfl, hw⟩; subst hw)
    go_returns
    exact ⟨rfl, rfl⟩
  · rw [cmpI_gt c]
    have c' : decide (a < b) = false := by simp; omega
    go_enter Tryz.func106, Tryz.ntmps106
    go_wp2_with (go_at_call 127; refine (isNaNu _ _).mono ?_; rintro e wk ⟨rfl, hw⟩; subst hw)
    go_returns
    exact ⟨rfl, rfl⟩

set_option maxRecDepth 100000 in
set_option maxHeartbeats 1000000 in
theorem cmpOr_any (x y z : Int) (b cap : Nat) (w : World) (h0 : w.cell? ⟨b, 0, none⟩ = some (.int .i64 x)) (h1 : w.cell? ⟨b, 1, none⟩ = some (.int .i64 y)) (h2 : w.cell? ⟨b, 2, none⟩ = some (.int .i64 z)) (hc : 3 ≤ cap) :
    Calls Tryz.prog 104 #[.slice (some ⟨b, 0, none⟩) 3 cap] w fun e w' => e = .returned (.int .i64 (or3 x y z)) ∧ w = w' := by
  unfold or3
  by_cases c1 : x = 0
  · subst c1
    rw [if_neg (by decide)]
    by_cases c2 : y = 0
    · subst c2
      rw [if_neg (by decide)]
      by_cases c3 : z = 0
      · subst c3
        go_enter Tryz.func104, Tryz.ntmps104
        go_wp2
        refine wp_loop_rounds 4 ?_
        iterate 4 (rw [rounds_succ]; go_wp2)
        go_returns
        exact ⟨rfl, rfl⟩
      · have e3 : (z == 0) = false := by simp [c3]
        go_enter Tryz.func104, Tryz.ntmps104
        go_wp2
        refine wp_loop_rounds 3 ?_
        iterate 3 (rw [rounds_succ]; go_wp2)
        go_returns
        exact ⟨rfl, rfl⟩
    · rw [if_pos c2]
      have e2 : (y == 0) = false := by simp [c2]
      go_enter Tryz.func104, Tryz.ntmps104
      go_wp2
      refine wp_loop_rounds 2 ?_
      iterate 2 (rw [rounds_succ]; go_wp2)
      go_returns
      exact ⟨rfl, rfl⟩
  · rw [if_pos c1]
    have e1 : (x == 0) = false := by simp [c1]
    go_enter Tryz.func104, Tryz.ntmps104
    go_wp2
    refine wp_loop_rounds 1 ?_
    rw [rounds_succ]; go_wp2
    go_returns
    exact ⟨rfl, rfl⟩
end Go.Proofs.YtkflpogmhailhaaGreatDoor

/- impl's order, Compare, lesserOf, greaterOf. -/
set_option linter.unusedVariables false
set_option linter.unusedSimpArgs false
namespace Go.Proofs.YtkflpogmhailhaaGreatDoor
open Go.RowKit

set_option maxRecDepth 100000 in
set_option maxHeartbeats 1000000 in
theorem order_signs (sx ex cx xh xl sy ey cy yh yl d : Int) (tx ty : Bool) (hs : sx ≠ sy) (hd : IntKind.i64.wrap (sy - sx) = d) (w : World) :
    Calls Tryz.prog 54 #[.agg #[.int .i64 sx, .int .i64 ex, .int .i64 cx, .int .u64 xh, .int .u64 xl, .bool tx, .int .i64 0], .agg #[.int .i64 sy, .int .i64 ey, .int .i64 cy, .int .u64 yh, .int .u64 yl, .bool ty, .int .i64 0]] w fun e w' => e = .returned (.int .i64 d) ∧ Gr w w' := by
  have c1 : (sx == sy) = false := by simp [hs]
  go_enter Tryz.func54, Tryz.ntmps54
  go_wp2
  go_returns
  exact ⟨by first | rfl | rw [hd], Gr.g⟩

set_option maxRecDepth 100000 in
set_option maxHeartbeats 1000000 in
theorem order_sizes (s ex cx xh xl ey cy yh yl c1 c2 c3 d r : Int) (tx ty : Bool) (h1 : cmpI cx cy = c1) (h2 : cmpI ex ey = c2) (h3 : cmpI xl yl = c3) (hd : or3 c1 c2 c3 = d) (hr : s = 1 ∧ wrap64 (-d) = r ∨ s ≠ 1 ∧ d = r) (w : World) :
    Calls Tryz.prog 54 #[.agg #[.int .i64 s, .int .i64 ex, .int .i64 cx, .int .u64 xh, .int .u64 xl, .bool tx, .int .i64 0], .agg #[.int .i64 s, .int .i64 ey, .int .i64 cy, .int .u64 yh, .int .u64 yl, .bool ty, .int .i64 0]] w fun e w' => e = .returned (.int .i64 r) ∧ Gr w w' := by
  have H1 : Hid (∀ w, Calls Tryz.prog 105 #[.int .i64 cx, .int .i64 cy] w fun e w' => e = .returned (.int .i64 c1) ∧ w = w') := fun w => h1 ▸ cmpInt_any cx cy w
  have H2 : Hid (∀ w, Calls Tryz.prog 105 #[.int .i64 ex, .int .i64 ey] w fun e w' => e = .returned (.int .i64 c2) ∧ w = w') := fun w => h2 ▸ cmpInt_any ex ey w
  have H3 : Hid (∀ w, Calls Tryz.prog 106 #[.int .u64 xl, .int .u64 yl] w fun e w' => e = .returned (.int .i64 c3) ∧ w = w') := fun w => h3 ▸ cmpWord_any xl yl w
  have H4 : Hid (∀ (b cap : Nat) (w : World), w.cell? ⟨b, 0, none⟩ = some (.int .i64 c1) → w.cell? ⟨b, 1, none⟩ = some (.int .i64 c2) → w.cell? ⟨b, 2, none⟩ = some (.int .i64 c3) → 3 ≤ cap → Calls Tryz.prog 104 #[.slice (some ⟨b, 0, none⟩) 3 cap] w fun e w' => e = .returned (.int .i64 d) ∧ w = w') := fun b cap w a1 a2 a3 a4 => hd ▸ cmpOr_any c1 c2 c3 b cap w a1 a2 a3 a4
  clear h1 h2 h3 hd
  rcases hr with ⟨rfl, hr⟩ | ⟨hs, rfl⟩
  · go_enter Tryz.func54, Tryz.ntmps54
    go_wp2
    go_region_held3 (fun w' => w'.cell? ⟨w.heap.size, 1, none⟩ = some (.int .i64 ex) ∧ w'.cell? ⟨w.heap.size, 2, none⟩ = some (.int .i64 cx) ∧ w'.cell? ⟨w.heap.size, 4, none⟩ = some (.int .u64 xl) ∧ w'.cell? ⟨w.heap.size + 1, 1, none⟩ = some (.int .i64 ey) ∧ w'.cell? ⟨w.heap.size + 1, 2, none⟩ = some (.int .i64 cy) ∧ w'.cell? ⟨w.heap.size + 1, 4, none⟩ = some (.int .u64 yl))
      ((go_split_ands; (repeat' apply And.intro) <;> exact kh))
      (first
        | (go_at_call 105; first | (with_reducible refine (H1.out _).mono ?_; rintro e wk ⟨rfl, hw⟩; subst hw) | (with_reducible refine (H2.out _).mono ?_; rintro e wk ⟨rfl, hw⟩; subst hw))
        | (go_at_call 106; with_reducible refine (H3.out _).mono ?_; rintro e wk ⟨rfl, hw⟩; subst hw)
        | (go_at_call 104; refine (H4.out _ _ _ (by simp [go_sem]) (by simp [go_sem]) (by simp [go_sem]) (by decide)).mono ?_; rintro e wk ⟨rfl, hw⟩; subst hw))
    all_goals (try go_split_ands)
    all_goals go_wp2
    all_goals go_returns
    all_goals exact ⟨ret_congr (congrArg (Value.int .i64) hr), Gr.g⟩
  · have c1 : (s == 1) = false := by simp [hs]
    go_enter Tryz.func54, Tryz.ntmps54
    go_wp2
    go_region_held3 (fun w' => w'.cell? ⟨w.heap.size, 1, none⟩ = some (.int .i64 ex) ∧ w'.cell? ⟨w.heap.size, 2, none⟩ = some (.int .i64 cx) ∧ w'.cell? ⟨w.heap.size, 4, none⟩ = some (.int .u64 xl) ∧ w'.cell? ⟨w.heap.size + 1, 1, none⟩ = some (.int .i64 ey) ∧ w'.cell? ⟨w.heap.size + 1, 2, none⟩ = some (.int .i64 cy) ∧ w'.cell? ⟨w.heap.size + 1, 4, none⟩ = some (.int .u64 yl))
      ((go_split_ands; (repeat' apply And.intro) <;> exact kh))
      (first
        | (go_at_call 105; first | (with_reducible refine (H1.out _).mono ?_; rintro e wk ⟨rfl, hw⟩; subst hw) | (with_reducible refine (H2.out _).mono ?_; rintro e wk ⟨rfl, hw⟩; subst hw))
        | (go_at_call 106; with_reducible refine (H3.out _).mono ?_; rintro e wk ⟨rfl, hw⟩; subst hw)
        | (go_at_call 104; refine (H4.out _ _ _ (by simp [go_sem]) (by simp [go_sem]) (by simp [go_sem]) (by decide)).mono ?_; rintro e wk ⟨rfl, hw⟩; subst hw))
    all_goals (try go_split_ands)
    all_goals go_wp2
    all_goals go_returns
    all_goals exact ⟨rfl, Gr.g⟩
end Go.Proofs.YtkflpogmhailhaaGreatDoor
