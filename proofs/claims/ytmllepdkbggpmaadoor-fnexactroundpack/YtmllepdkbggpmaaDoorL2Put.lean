/- spec.l2Bad, l2Put. -/
import Derived.Test.YtmllepdkbggpmaaDoorL2Num
import Derived.WalkLawsBesides
set_option linter.unusedVariables false
set_option linter.unusedSimpArgs false
namespace Go.Proofs.YtmllepdkbggpmaaDoor
open Go.RowKit

theorem l2Bad_fmt {f p mx one inf sg nan : Int} (h : IsFmt f p mx one inf sg nan) (w : World) :
    Calls Tryd.prog 35 #[.int .i64 f] w fun e w' => e = .returned (.agg #[.int .u64 nan, .int .i64 1]) ∧ Gr w w' := by
  have hf : true = decide (f = 0 ∨ f = 1) := by rcases h with h | h <;> simp [h.1]
  have HE : Hid _ := h
  have HF : Hid _ := hf
  clear h hf
  go_enter Tryd.func35, Tryd.ntmps35
  go_wp2_with (first
    | (go_at_call 28; refine (l2Format_any _ true HF.out _).mono ?_; rintro e w' ⟨rfl, hw⟩; subst hw)
    | (go_at_call 21; refine (l2Nan_any HE.out _).mono ?_; rintro e w' ⟨rfl, hw⟩; subst hw))
  go_returns
  exact ⟨rfl, by (repeat' (first | (with_reducible assumption) | (with_reducible exact Gr.refl _) | (with_reducible refine Gr.alloc ?_ _ _) | (with_reducible refine Gr.drew ?_) | (with_reducible refine Gr.setCell ?_ ?_ _) | (with_reducible refine Gr.trans ?_ (by with_reducible assumption)) | go_size))⟩

theorem fmt64 : IsFmt 1 53 1023 4503599627370496 9218868437227405312 9223372036854775808 9221120237041090560 := .inr ⟨rfl, rfl, rfl, rfl, rfl, rfl, rfl⟩

theorem l2Bad_no (f : Int) (h : ¬ (f = 0 ∨ f = 1)) (w : World) :
    Calls Tryd.prog 35 #[.int .i64 f] w fun e w' => e = .returned (.agg #[.int .u64 9221120237041090560, .int .i64 1]) ∧ Gr w w' := by
  have HF : Hid (false = decide (f = 0 ∨ f = 1)) := by show _ = _; simp; omega
  clear h
  go_enter Tryd.func35, Tryd.ntmps35
  go_wp2_with (first
    | (go_at_call 28; refine (l2Format_any _ false HF.out _).mono ?_; rintro e w' ⟨rfl, hw⟩; subst hw)
    | (go_at_call 21; refine (l2Nan_any fmt64 _).mono ?_; rintro e w' ⟨rfl, hw⟩; subst hw))
  go_returns
  exact ⟨rfl, by (repeat' (first | (with_reducible assumption) | (with_reducible exact Gr.refl _) | (with_reducible refine Gr.alloc ?_ _ _) | (with_reducible refine Gr.drew ?_) | (with_reducible refine Gr.setCell ?_ ?_ _) | (with_reducible refine Gr.trans ?_ (by with_reducible assumption)) | go_size))⟩

theorem l2Put_zero (f v : Int) (w : World) :
    Calls Tryd.prog 38 #[.int .i64 f, .int .i64 0, .int .u64 v] w fun e w' => e = .returned (.int .u64 v) ∧ w = w' := by
  go_enter Tryd.func38, Tryd.ntmps38
  go_wp2
  go_ret
  exact ⟨rfl, rfl⟩
theorem l2Put_one {f p mx one inf sg nan : Int} (h : IsFmt f p mx one inf sg nan) (v : Int) (v0 : 0 ≤ v) (v1 : v < sg) (w : World) :
    Calls Tryd.prog 38 #[.int .i64 f, .int .i64 1, .int .u64 v] w fun e w' => e = .returned (.int .u64 (v + sg)) ∧ w = w' := by
  obtain ⟨b1, b2, b3, b4, b5, b6, b7, b8, b9, b10, b11, b12⟩ := h.bounds
  have HE : Hid _ := h
  clear h
  go_enter Tryd.func38, Tryd.ntmps38
  go_wp2_with (go_at_call 19; refine (l2Sign_any HE.out _).mono ?_; rintro e w' ⟨rfl, hw⟩; subst hw)
  go_ret
  exact ⟨rfl, rfl⟩

theorem IsFmt.yes {f p mx one inf sg nan : Int} (h : IsFmt f p mx one inf sg nan) : true = decide (f = 0 ∨ f = 1) := by
  rcases h with h | h <;> simp [h.1]

end Go.Proofs.YtmllepdkbggpmaaDoor
