/- spec.SubWide. -/
import Derived.Test.YtmcbciaeibfgpaaLess
set_option linter.unusedVariables false
set_option linter.unusedSimpArgs false
namespace Go.Proofs.Ytmcbciaeibfgpaa
open Go.RowKit

set_option maxHeartbeats 1000000 in
theorem specSub_any (ah al bh bl : Int) (ha0 : 0 ≤ ah) (ha1 : ah < 18446744073709551616) (hb0 : 0 ≤ al) (hb1 : al < 18446744073709551616) (hc0 : 0 ≤ bh) (hc1 : bh < 18446744073709551616) (hd0 : 0 ≤ bl) (hd1 : bl < 18446744073709551616) (w : World) :
    Calls Try.prog 24 #[.agg #[.int .u64 ah, .int .u64 al], .agg #[.int .u64 bh, .int .u64 bl]] w fun e w' =>
      e = .returned (.tuple #[.agg #[.int .u64 ((ah - bh - bor al bl) % 18446744073709551616), .int .u64 ((al - bl) % 18446744073709551616)], .bool (lt2 ah al bh bl)]) ∧ Gr w w' := by
  have HB : Hid (bor al bl = if al < bl then 1 else 0) := rfl
  go_enter Try.func24, Try.ntmps24
  go_wp2
  all_goals
    go_region_held3 (fun w' => w'.cell? ⟨w.heap.size, 0, none⟩ = some (.int .u64 ah) ∧ w'.cell? ⟨w.heap.size, 1, none⟩ = some (.int .u64 al) ∧ w'.cell? ⟨w.heap.size + 1, 0, none⟩ = some (.int .u64 bh) ∧ w'.cell? ⟨w.heap.size + 1, 1, none⟩ = some (.int .u64 bl))
      ((go_split_ands; (repeat' apply And.intro) <;> (repeat' (first | (with_reducible assumption) | (with_reducible refine has_of (by with_reducible assumption)) | (with_reducible refine Gr.old (by with_reducible assumption) ?_) | (with_reducible refine cell_swap _ ?_ (by with_reducible assumption); omega) | (with_reducible refine cell_setSame ?_) | (with_reducible refine has_old (by with_reducible assumption) ?_) | (with_reducible refine has_set ?_) | (with_reducible refine cell_setOff ?_ ?_; omega) | (with_reducible refine cell_setNew ?_ ?_; (dsimp only; omega)) | (simp [go_sem]; done) | (simp [go_sem]; rfl) | (with_reducible refine cell_alloc _ ?_) | (with_reducible refine cell_drew ?_) | (with_reducible refine has_alloc _ ?_) | (with_reducible refine fz_old (by with_reducible assumption) ?_) | (with_reducible refine fz_alloc ?_) | (with_reducible refine fz_set ?_) | (with_reducible refine fz_drew ?_)))))
      ((go_at_call 42; refine (less_any ah al bh bl ha0 hb0 hb1 hc0 hd0 hd1 _).mono ?_; rintro e w1 ⟨rfl, c1, c2, rfl⟩))
  all_goals go_wp2
  all_goals go_returns
  all_goals
    refine ⟨ret_wb ?_ ?_ rfl, by (repeat' (first | (with_reducible assumption) | (with_reducible exact Gr.refl _) | (with_reducible refine Gr.alloc ?_ _ _) | (with_reducible refine Gr.drew ?_) | (with_reducible refine Gr.setCell ?_ ?_ _) | (with_reducible refine Gr.trans ?_ (by with_reducible assumption)) | go_size))⟩
  all_goals simp only [IntKind.wrap_u64, bor] at *
  all_goals first | omega | (split <;> omega)

end Go.Proofs.Ytmcbciaeibfgpaa
