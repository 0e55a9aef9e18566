/- laws.FnExactShiftLeft. -/
import Derived.Test.YtmcbciaeibfgpaaShiftLI
import Derived.Test.YtmcbciaeibfgpaaSpecShl
import Derived.Test.YtmcbciaeibfgpaaLawLeaf
set_option linter.unusedVariables false
set_option linter.unusedSimpArgs false
namespace Go.Proofs.Ytmcbciaeibfgpaa
open Go.RowKit

set_option maxHeartbeats 1000000 in
theorem lawShl (h l n : Int) (hh0 : 0 ≤ h) (hh1 : h < 18446744073709551616) (hl0 : 0 ≤ l) (hl1 : l < 18446744073709551616) (w : World) :
    Calls Try.prog 5 #[.agg #[.int .u64 h, .int .u64 l], .int .i64 n] w fun e w' => e = .returned (.bool true) ∧ Gr w w' := by
  go_enter Try.func5, Try.ntmps5
  go_wp2_with (first
    | (go_at_call 16; refine (toWide_any _ _ _).mono ?_; rintro e w1 ⟨rfl, c1, c2, c3, rfl⟩)
    | (go_at_call 18; refine (specShl_any h l n hh0 hl0 hh1 hl1 _).mono ?_; rintro e w2 ⟨rfl, c1, c2, rfl⟩)
    | (go_at_call 19; refine (shiftLeft_any h l n hh0 hl0 hh1 hl1 _).mono ?_; rintro e w3 ⟨rfl, hg_w3⟩; have hc_w3 := hg_w3.cells; have hf_w3 := hg_w3.frozens; have hz_w3 := hg_w3.size; (try simp only [World.size_alloc, World.size_drew, World.size_setCell] at hz_w3); have hz1 : w.heap.size + 1 + 1 + 1 + 1 + 1 + 1 < w3.heap.size := (by omega))
    | (go_at_call 14; refine (eqWide_same _ _ _).mono ?_; rintro e w7 ⟨rfl, hg_w7⟩))
  go_returns
  exact ⟨rfl, by (repeat' (first | (with_reducible assumption) | (with_reducible exact Gr.refl _) | (with_reducible refine Gr.alloc ?_ _ _) | (with_reducible refine Gr.drew ?_) | (with_reducible refine Gr.setCell ?_ ?_ _) | (with_reducible refine Gr.trans ?_ (by with_reducible assumption)) | go_size))⟩

end Go.Proofs.Ytmcbciaeibfgpaa
