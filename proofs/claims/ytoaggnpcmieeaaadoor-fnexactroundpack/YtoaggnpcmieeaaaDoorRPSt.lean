/- impl.stickyFits. -/
import Derived.Test.YtoaggnpcmieeaaaDoorRPOver
set_option linter.unusedVariables false
set_option linter.unusedSimpArgs false
namespace Go.Proofs.YtoaggnpcmieeaaaDoor
open Go.RowKit

set_option maxRecDepth 100000 in
set_option maxHeartbeats 2000000 in
theorem stickyFits_any {p mn mx : Int} (p0 : 24 ≤ p) (p1 : p ≤ 53) (M : Nat) (hM : M < 340282366920938463463374607431768211456) (b : Bool) (hb : b = decide (p + 2 ≤ (nb M : Int))) (w : World) :
    Calls Tryd.prog 42 #[.agg #[.int .i64 p, .int .i64 mn, .int .i64 mx], .agg #[.int .u64 ((M / 18446744073709551616 : Nat) : Int), .int .u64 ((M % 18446744073709551616 : Nat) : Int)]] w fun e w' => e = .returned (.bool b) ∧ Gr w w' := by
  have HZ : Hid (∀ w, Calls Tryd.prog 60 #[.agg #[.int .u64 ((M / 18446744073709551616 : Nat) : Int), .int .u64 ((M % 18446744073709551616 : Nat) : Int)]] w fun e w' => e = .returned (.int .i64 (128 - (nb M : Int))) ∧ Gr w w') := fun w => zerosM M hM w
  have hn : nb M ≤ 128 := nb_le (by simpa using hM)
  generalize ((M / 18446744073709551616 : Nat) : Int) = mh at *
  generalize ((M % 18446744073709551616 : Nat) : Int) = ml at *
  generalize nb M = L at *
  obtain ⟨u, hu⟩ : ∃ u : Int, 128 - (L : Int) = u := ⟨_, rfl⟩
  rw [hu] at HZ
  have u1 : IntKind.i64.wrap (128 - u) = (L : Int) := by rw [IntKind.wrap_i64]; omega
  have u2 : IntKind.i64.wrap (p + 2) = p + 2 := by rw [IntKind.wrap_i64]; omega
  have hB : Hid (b = decide (p + 2 ≤ (L : Int))) := hb
  clear hb hu
  go_enter Tryd.func42, Tryd.ntmps42
  go_wp2
  go_region_held3 (fun w' => w'.cell? ⟨w.heap.size, 0, none⟩ = some (.int .i64 p) ∧ w'.cell? ⟨w.heap.size + 1, 0, none⟩ = some (.int .u64 mh) ∧ w'.cell? ⟨w.heap.size + 1, 1, none⟩ = some (.int .u64 ml))
    ((go_split_ands; (repeat' apply And.intro) <;> (repeat' (first | (with_reducible assumption) | (with_reducible refine has_of (by with_reducible assumption)) | (with_reducible refine Gr.old (by with_reducible assumption) ?_) | (with_reducible refine cell_swap _ ?_ (by with_reducible assumption); omega) | (with_reducible refine cell_setSame ?_) | (with_reducible refine has_old (by with_reducible assumption) ?_) | (with_reducible refine has_set ?_) | (with_reducible refine cell_setOff ?_ ?_; omega) | (with_reducible refine cell_setNew ?_ ?_; (dsimp only; omega)) | (simp [go_sem]; done) | (simp [go_sem]; rfl) | (with_reducible refine cell_alloc _ ?_) | (with_reducible refine cell_drew ?_) | (with_reducible refine has_alloc _ ?_) | (with_reducible refine fz_old (by with_reducible assumption) ?_) | (with_reducible refine fz_alloc ?_) | (with_reducible refine fz_set ?_) | (with_reducible refine fz_drew ?_)))))
    (first | (go_at_call 60; refine (HZ.out _).mono ?_; rintro e w1 ⟨rfl, hg_w1⟩; have hc_w1 := hg_w1.cells; have hf_w1 := hg_w1.frozens; have hz_w1 := hg_w1.size; (try simp only [World.size_alloc, World.size_drew, World.size_setCell] at hz_w1)))
  all_goals go_wp2
  all_goals go_returns
  all_goals exact ⟨ret_congr (congrArg Value.bool (by first | exact hB.out.symm | (rw [hB.out]; simp))), kr⟩
end Go.Proofs.YtoaggnpcmieeaaaDoor
