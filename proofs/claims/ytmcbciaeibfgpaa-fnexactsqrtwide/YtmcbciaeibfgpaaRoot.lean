/- addProduct, below, clear; words.root. -/
import Derived.Test.YtmcbciaeibfgpaaMul
import Derived.Test.YtmcbciaeibfgpaaPlus
import Derived.Test.YtmcbciaeibfgpaaMinus
import Derived.Test.YtmcbciaeibfgpaaWords
import Derived.Test.YtmcbciaeibfgpaaEq
import Derived.WalkLawsBesides
set_option linter.unusedVariables false
set_option linter.unusedSimpArgs false
namespace Go.Proofs.Ytmcbciaeibfgpaa
open Go.RowKit

set_option maxHeartbeats 1000000 in
theorem addProduct_zero (b : Nat) (x y : Int) (hx0 : 0 ≤ x) (hx : x < 18446744073709551616) (hy0 : 0 ≤ y) (hy : y < 18446744073709551616) (w : World)
    (q0 : w.cell? ⟨b, 0, none⟩ = some (.int .u64 0)) (q1 : w.cell? ⟨b, 1, none⟩ = some (.int .u64 0)) (z0 : w.frozen? ⟨b, 0, none⟩ = false) (z1 : w.frozen? ⟨b, 1, none⟩ = false) :
    Calls Try.prog 35 #[.pointer (some ⟨b, 0, none⟩), .int .u64 x, .int .u64 y] w fun e w' => e = .returned (.tuple #[]) ∧
      ∃ w1, Gr w w1 ∧ w' = (w1.setCell ⟨b, 0, none⟩ (.int .u64 (x * y % 18446744073709551616))).setCell ⟨b, 1, none⟩ (.int .u64 (x * y / 18446744073709551616)) := by
  obtain ⟨b0, b1⟩ := mul_bounds x y hx0 hx hy0 hy
  have e1 : x * y % 18446744073709551616 % 18446744073709551616 = x * y % 18446744073709551616 := by omega
  have e2 : x * y % 18446744073709551616 / 18446744073709551616 = 0 := by omega
  have e3 : x * y / 18446744073709551616 % 18446744073709551616 = x * y / 18446744073709551616 := by omega
  go_enter Try.func35, Try.ntmps35
  go_wp2_with (first
    | (go_at_call 49; refine (mul64_int x y hx0 hx hy0 hy _).mono ?_; rintro e w' ⟨rfl, hw⟩; rw [hw]; clear hw w')
    | (go_at_call 38; refine (plus_any 0 0 _ _ (by omega) (by omega) (by omega) (by omega) (by omega) (by omega) _).mono ?_; rintro e w1 ⟨rfl, d1, d2, d3, d4, hw1⟩; have hg_w1 : Gr w w1 := (by rw [hw1]; (repeat' (first | (with_reducible assumption) | (with_reducible exact Gr.refl _) | (with_reducible refine Gr.alloc ?_ _ _) | (with_reducible refine Gr.drew ?_) | (with_reducible refine Gr.setCell ?_ ?_ _) | (with_reducible refine Gr.trans ?_ (by with_reducible assumption)) | go_size))); clear hw1; have r0 : w1.cell? ⟨b, 0, none⟩ = some (.int .u64 0) := (by (repeat' (first | (with_reducible assumption) | (with_reducible refine has_of (by with_reducible assumption)) | (with_reducible refine Gr.old (by with_reducible assumption) ?_) | (with_reducible refine cell_swap _ ?_ (by with_reducible assumption); omega) | (with_reducible refine cell_setSame ?_) | (with_reducible refine has_old (by with_reducible assumption) ?_) | (with_reducible refine has_set ?_) | (with_reducible refine cell_setOff ?_ ?_; omega) | (with_reducible refine cell_setNew ?_ ?_; (dsimp only; omega)) | (simp [go_sem]; done) | (simp [go_sem]; rfl) | (with_reducible refine cell_alloc _ ?_) | (with_reducible refine cell_drew ?_) | (with_reducible refine has_alloc _ ?_) | (with_reducible refine fz_old (by with_reducible assumption) ?_) | (with_reducible refine fz_alloc ?_) | (with_reducible refine fz_set ?_) | (with_reducible refine fz_drew ?_)))); have r1 : w1.cell? ⟨b, 1, none⟩ = some (.int .u64 0) := (by (repeat' (first | (with_reducible assumption) | (with_reducible refine has_of (by with_reducible assumption)) | (with_reducible refine Gr.old (by with_reducible assumption) ?_) | (with_reducible refine cell_swap _ ?_ (by with_reducible assumption); omega) | (with_reducible refine cell_setSame ?_) | (with_reducible refine has_old (by with_reducible assumption) ?_) | (with_reducible refine has_set ?_) | (with_reducible refine cell_setOff ?_ ?_; omega) | (with_reducible refine cell_setNew ?_ ?_; (dsimp only; omega)) | (simp [go_sem]; done) | (simp [go_sem]; rfl) | (with_reducible refine cell_alloc _ ?_) | (with_reducible refine cell_drew ?_) | (with_reducible refine has_alloc _ ?_) | (with_reducible refine fz_old (by with_reducible assumption) ?_) | (with_reducible refine fz_alloc ?_) | (with_reducible refine fz_set ?_) | (with_reducible refine fz_drew ?_)))); have y0 : w1.frozen? ⟨b, 0, none⟩ = false := (by (repeat' (first | (with_reducible assumption) | (with_reducible refine has_of (by with_reducible assumption)) | (with_reducible refine Gr.old (by with_reducible assumption) ?_) | (with_reducible refine cell_swap _ ?_ (by with_reducible assumption); omega) | (with_reducible refine cell_setSame ?_) | (with_reducible refine has_old (by with_reducible assumption) ?_) | (with_reducible refine has_set ?_) | (with_reducible refine cell_setOff ?_ ?_; omega) | (with_reducible refine cell_setNew ?_ ?_; (dsimp only; omega)) | (simp [go_sem]; done) | (simp [go_sem]; rfl) | (with_reducible refine cell_alloc _ ?_) | (with_reducible refine cell_drew ?_) | (with_reducible refine has_alloc _ ?_) | (with_reducible refine fz_old (by with_reducible assumption) ?_) | (with_reducible refine fz_alloc ?_) | (with_reducible refine fz_set ?_) | (with_reducible refine fz_drew ?_)))); have y1 : w1.frozen? ⟨b, 1, none⟩ = false := (by (repeat' (first | (with_reducible assumption) | (with_reducible refine has_of (by with_reducible assumption)) | (with_reducible refine Gr.old (by with_reducible assumption) ?_) | (with_reducible refine cell_swap _ ?_ (by with_reducible assumption); omega) | (with_reducible refine cell_setSame ?_) | (with_reducible refine has_old (by with_reducible assumption) ?_) | (with_reducible refine has_set ?_) | (with_reducible refine cell_setOff ?_ ?_; omega) | (with_reducible refine cell_setNew ?_ ?_; (dsimp only; omega)) | (simp [go_sem]; done) | (simp [go_sem]; rfl) | (with_reducible refine cell_alloc _ ?_) | (with_reducible refine cell_drew ?_) | (with_reducible refine has_alloc _ ?_) | (with_reducible refine fz_old (by with_reducible assumption) ?_) | (with_reducible refine fz_alloc ?_) | (with_reducible refine fz_set ?_) | (with_reducible refine fz_drew ?_))))))
  go_end0
  exact ⟨rfl, w1, hg_w1, rfl⟩

theorem below_any (a0 a1 b0 b1 : Int) (ha0 : 0 ≤ a0) (ha1 : 0 ≤ a1) (hb0 : 0 ≤ b0) (hb1 : 0 ≤ b1) (gb0 : b0 < 18446744073709551616) (gb1 : b1 < 18446744073709551616) (w : World) :
    Calls Try.prog 54 #[.agg #[.int .u64 a0, .int .u64 a1], .agg #[.int .u64 b0, .int .u64 b1]] w fun e w' => e = .returned (.bool (lt2 a1 a0 b1 b0)) ∧ Gr w w' := by
  have HL : Hid (lt2 a1 a0 b1 b0 = (bor a1 (b1 + bor a0 b0) != 0)) := rfl
  go_enter Try.func54, Try.ntmps54
  go_wp2_with (go_at_call 43; refine (minus_any a0 a1 b0 b1 ha0 ha1 hb0 hb1 gb0 gb1 _).mono ?_; rintro e w2 ⟨rfl, d1, d2, d3, d4, rfl⟩)
  go_returns
  exact ⟨ret_congr (congrArg Value.bool HL.out.symm), by (repeat' (first | (with_reducible assumption) | (with_reducible exact Gr.refl _) | (with_reducible refine Gr.alloc ?_ _ _) | (with_reducible refine Gr.drew ?_) | (with_reducible refine Gr.setCell ?_ ?_ _) | (with_reducible refine Gr.trans ?_ (by with_reducible assumption)) | go_size))⟩
end Go.Proofs.Ytmcbciaeibfgpaa
