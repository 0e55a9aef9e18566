/- impl.NextUp: what does not fit; laws.FnExactNextUp. -/
import Derived.Test.YtmllepdkbggpmaaDoorF2n
set_option linter.unusedVariables false
set_option linter.unusedSimpArgs false
namespace Go.Proofs.YtmllepdkbggpmaaDoor
open Go.RowKit

theorem mF64 : IsM 53 (-1022) 1023 52 63 4503599627370496 9218868437227405312 9223372036854775808 9221120237041090560 := .inr ⟨rfl, rfl, rfl, rfl, rfl, rfl, rfl, rfl, rfl⟩
theorem mF32 : IsM 24 (-126) 127 23 31 8388608 2139095040 2147483648 2143289344 := .inl ⟨rfl, rfl, rfl, rfl, rfl, rfl, rfl, rfl, rfl⟩
theorem fmt32 : IsFmt 0 24 127 8388608 2139095040 2147483648 2143289344 := .inl ⟨rfl, rfl, rfl, rfl, rfl, rfl, rfl⟩

set_option maxRecDepth 100000 in
set_option maxHeartbeats 2000000 in
theorem implNext_none (f W : Int) (h : ¬ (f = 0 ∨ f = 1)) {w : World} (hw : Fm w) :
    Calls Tryd.prog 11 #[.int .i64 f, .int .u64 W] w fun e w' => e = .returned (.int .u64 9221120237041090560) ∧ Gr w w' := by
  have HF : Hid (∀ w', Calls Tryd.prog 25 #[.int .i64 f] w' fun e w'' => e = .returned (.tuple #[.agg #[.int .i64 0, .int .i64 0, .int .i64 0], .bool false]) ∧ Gr w' w'') := fun w' => formatOf_no f h w'
  have HN : Hid (∀ w, Calls Tryd.prog 29 #[.agg #[.int .i64 53, .int .i64 (-1022), .int .i64 1023]] w fun e w' => e = .returned (.int .u64 9221120237041090560) ∧ Gr w w') := fun w => nan_any mF64 w
  have HW : Hid (Fm w) := hw
  clear h hw
  go_enter Tryd.func11, Tryd.ntmps11
  go_wp2_with (first
    | (go_at_call 25; refine (HF.out _).mono ?_; rintro e w3 ⟨rfl, hg_w3⟩; obtain ⟨a0, a1, a2, a3, a4, a5⟩ := Fm.gr HW.out hg_w3; have A3 := (fun ob => cell_alloc ob a3); have A4 := (fun ob => cell_alloc ob a4); have A5 := (fun ob => cell_alloc ob a5))
    | (go_at_call 29; refine (HN.out _).mono ?_; rintro e w4 ⟨rfl, hg_w4⟩))
  go_returns
  exact ⟨rfl, by (repeat' (first | (with_reducible assumption) | (with_reducible exact Gr.refl _) | (with_reducible refine Gr.alloc ?_ _ _) | (with_reducible refine Gr.drew ?_) | (with_reducible refine Gr.setCell ?_ ?_ _) | (with_reducible refine Gr.trans ?_ (by with_reducible assumption)) | go_size))⟩

section
attribute [local go_sem] undef
set_option maxRecDepth 100000 in
set_option maxHeartbeats 2000000 in
theorem implNext_wide (W : Int) (h0 : 4294967296 ≤ W) (h1 : W < 18446744073709551616) {w : World} (hw : Fm w) :
    Calls Tryd.prog 11 #[.int .i64 0, .int .u64 W] w fun e w' => e = .returned (.int .u64 2143289344) ∧ Gr w w' := by
  have HF : Hid (∀ w', Gr w w' → Calls Tryd.prog 25 #[.int .i64 0] w' fun e w'' => e = .returned (.tuple #[.agg #[.int .i64 24, .int .i64 (-126), .int .i64 127], .bool true]) ∧ Gr w' w'') := fun w' hg => formatOf_yes fmt32 mF32 (hw.gr hg)
  have HI : Hid (∀ w, Calls Tryd.prog 26 #[.agg #[.int .i64 24, .int .i64 (-126), .int .i64 127], .int .u64 W] w fun e w' => e = .returned (.bool false) ∧ Gr w w') := fun w => by
    have := fits_any mF32 W (by omega) h1 w
    rw [decide_eq_false (by omega)] at this; exact this
  have HN : Hid (∀ w, Calls Tryd.prog 29 #[.agg #[.int .i64 24, .int .i64 (-126), .int .i64 127]] w fun e w' => e = .returned (.int .u64 2143289344) ∧ Gr w w') := fun w => nan_any mF32 w
  clear hw
  go_enter Tryd.func11, Tryd.ntmps11
  go_wp2_with (go_at_call 25; refine (HF.out _ (by (repeat' (first | (with_reducible assumption) | (with_reducible exact Gr.refl _) | (with_reducible refine Gr.alloc ?_ _ _) | (with_reducible refine Gr.drew ?_) | (with_reducible refine Gr.setCell ?_ ?_ _) | (with_reducible refine Gr.trans ?_ (by with_reducible assumption)) | go_size)))).mono ?_; rintro e w3 ⟨rfl, hg_w3⟩)
  first
    | (go_region_with (go_at_call 26; refine (HI.out _).mono ?_; rintro e w4 ⟨rfl, hg_w4⟩; have bm0 : w4.cell? ⟨w3.heap.size, 0, none⟩ = some (.int .i64 24) := (by (repeat' (first | (with_reducible assumption) | (with_reducible refine has_of (by with_reducible assumption)) | (with_reducible refine Gr.old (by with_reducible assumption) ?_) | (with_reducible refine cell_swap _ ?_ (by with_reducible assumption); omega) | (with_reducible refine cell_setSame ?_) | (with_reducible refine has_old (by with_reducible assumption) ?_) | (with_reducible refine has_set ?_) | (with_reducible refine cell_setOff ?_ ?_; omega) | (with_reducible refine cell_setNew ?_ ?_; (dsimp only; omega)) | (simp [go_sem]; done) | (simp [go_sem]; rfl) | (with_reducible refine cell_alloc _ ?_) | (with_reducible refine cell_drew ?_) | (with_reducible refine has_alloc _ ?_) | (with_reducible refine fz_old (by with_reducible assumption) ?_) | (with_reducible refine fz_alloc ?_) | (with_reducible refine fz_set ?_) | (with_reducible refine fz_drew ?_)))); have bm1 : w4.cell? ⟨w3.heap.size, 1, none⟩ = some (.int .i64 (-126)) := (by (repeat' (first | (with_reducible assumption) | (with_reducible refine has_of (by with_reducible assumption)) | (with_reducible refine Gr.old (by with_reducible assumption) ?_) | (with_reducible refine cell_swap _ ?_ (by with_reducible assumption); omega) | (with_reducible refine cell_setSame ?_) | (with_reducible refine has_old (by with_reducible assumption) ?_) | (with_reducible refine has_set ?_) | (with_reducible refine cell_setOff ?_ ?_; omega) | (with_reducible refine cell_setNew ?_ ?_; (dsimp only; omega)) | (simp [go_sem]; done) | (simp [go_sem]; rfl) | (with_reducible refine cell_alloc _ ?_) | (with_reducible refine cell_drew ?_) | (with_reducible refine has_alloc _ ?_) | (with_reducible refine fz_old (by with_reducible assumption) ?_) | (with_reducible refine fz_alloc ?_) | (with_reducible refine fz_set ?_) | (with_reducible refine fz_drew ?_)))); have bm2 : w4.cell? ⟨w3.heap.size, 2, none⟩ = some (.int .i64 127) := (by (repeat' (first | (with_reducible assumption) | (with_reducible refine has_of (by with_reducible assumption)) | (with_reducible refine Gr.old (by with_reducible assumption) ?_) | (with_reducible refine cell_swap _ ?_ (by with_reducible assumption); omega) | (with_reducible refine cell_setSame ?_) | (with_reducible refine has_old (by with_reducible assumption) ?_) | (with_reducible refine has_set ?_) | (with_reducible refine cell_setOff ?_ ?_; omega) | (with_reducible refine cell_setNew ?_ ?_; (dsimp only; omega)) | (simp [go_sem]; done) | (simp [go_sem]; rfl) | (with_reducible refine cell_alloc _ ?_) | (with_reducible refine cell_drew ?_) | (with_reducible refine has_alloc _ ?_) | (with_reducible refine fz_old (by with_reducible assumption) ?_) | (with_reducible refine fz_alloc ?_) | (with_reducible refine fz_set ?_) | (with_reducible refine fz_drew ?_))))))
    | fail
  all_goals
    go_wp2_with (go_at_call 29; refine (HN.out _).mono ?_; rintro e w5 ⟨rfl, hg_w5⟩)
    go_returns
    exact ⟨rfl, by (repeat' (first | (with_reducible assumption) | (with_reducible exact Gr.refl _) | (with_reducible refine Gr.alloc ?_ _ _) | (with_reducible refine Gr.drew ?_) | (with_reducible refine Gr.setCell ?_ ?_ _) | (with_reducible refine Gr.trans ?_ (by with_reducible assumption)) | go_size))⟩
end

/-- There is an answer. -/
theorem next_is {f p mx one inf sg nan : Int} (h : IsFmt f p mx one inf sg nan) (W : Int) (h0 : 0 ≤ W) (h1 : W < 2 * sg) : ∃ z, NextIs inf sg nan W z := by
  obtain ⟨b1, b2, b3, b4, b5, b6, b7, b8, b9, b10, b11, b12⟩ := h.bounds
  rcases (show (W = 0 ∨ W = sg) ∨ (inf < W ∧ W < sg ∨ sg + inf < W) ∨ W = inf ∨ (0 < W ∧ W < inf) ∨ (sg < W ∧ W ≤ sg + inf) by omega) with c | c | c | c | c
  · exact ⟨1, .inl ⟨c, rfl⟩⟩
  · exact ⟨nan, .inr (.inl ⟨c, rfl⟩)⟩
  · exact ⟨inf, .inr (.inr (.inl ⟨c, rfl⟩))⟩
  · exact ⟨W + 1, .inr (.inr (.inr (.inl ⟨c.1, c.2, rfl⟩)))⟩
  · exact ⟨W - 1, .inr (.inr (.inr (.inr ⟨c.1, c.2, rfl⟩)))⟩

set_option maxRecDepth 100000 in
set_option maxHeartbeats 1000000 in
theorem lawNextB (f W : Int) (f0 : -9223372036854775808 ≤ f) (f1 : f < 9223372036854775808) (h0 : 0 ≤ W) (h1 : W < 18446744073709551616) {w : World} (hw : Fm w) :
    Calls Tryd.prog 4 #[.int .i64 f, .int .u64 W] w fun e w' => e = .returned (.bool true) ∧ Gb w w' := by
  have H : Hid (∃ z : Int, (∀ w, Calls Tryd.prog 10 #[.int .i64 f, .int .u64 W] w fun e w' => e = .returned (.int .u64 z) ∧ Gr w w') ∧
      (∀ w, Fm w → Calls Tryd.prog 11 #[.int .i64 f, .int .u64 W] w fun e w' => e = .returned (.int .u64 z) ∧ Gr w w')) := by
    rcases fit_or f W h0 h1 with ⟨p, mx, one, inf, sg, nan, hf, hW⟩ | hno
    · obtain ⟨z, hu⟩ := next_is hf W h0 hW
      refine ⟨z, fun w => (specNext_fit hf W h0 hW w).mono ?_, fun w hw => (implNext_fit hf W h0 hW hw).mono ?_⟩
      all_goals
        rintro e w' ⟨z', hu', rfl, hg⟩
        obtain rfl := NextIs.one hf hu hu'
        exact ⟨rfl, hg⟩
    · rcases hno with hno | ⟨rfl, hno⟩
      · exact ⟨_, fun w => specNext_none f W h0 hno w, fun w hw => implNext_none f W hno hw⟩
      · exact ⟨_, fun w => specNext_wide W h0 hno w, fun w hw => implNext_wide W hno h1 hw⟩
  obtain ⟨z, HA, HB⟩ := H.out
  have HS : Hid (∀ w, Calls Tryd.prog 10 #[.int .i64 f, .int .u64 W] w fun e w' => e = .returned (.int .u64 z) ∧ Gr w w') := HA
  have HI : Hid (∀ w', Gr w w' → Calls Tryd.prog 11 #[.int .i64 f, .int .u64 W] w' fun e w'' => e = .returned (.int .u64 z) ∧ Gr w' w'') := fun w' hg => HB w' (hw.gr hg)
  clear H HA HB hw
  go_enter Tryd.func4, Tryd.ntmps4
  go_wp2_with (first
    | (go_at_call 10; refine (HS.out _).mono ?_; rintro e w2 ⟨rfl, hg_w2⟩)
    | (go_at_call 11; refine (HI.out _ (by (repeat' (first | (with_reducible assumption) | (with_reducible exact Gr.refl _) | (with_reducible refine Gr.alloc ?_ _ _) | (with_reducible refine Gr.drew ?_) | (with_reducible refine Gr.setCell ?_ ?_ _) | (with_reducible refine Gr.trans ?_ (by with_reducible assumption)) | go_size)))).mono ?_; rintro e w3 ⟨rfl, hg_w3⟩))
  go_returns
  exact ⟨rfl, Gr.gb (by (repeat' (first | (with_reducible assumption) | (with_reducible exact Gr.refl _) | (with_reducible refine Gr.alloc ?_ _ _) | (with_reducible refine Gr.drew ?_) | (with_reducible refine Gr.setCell ?_ ?_ _) | (with_reducible refine Gr.trans ?_ (by with_reducible assumption)) | go_size)))⟩
end Go.Proofs.YtmllepdkbggpmaaDoor
