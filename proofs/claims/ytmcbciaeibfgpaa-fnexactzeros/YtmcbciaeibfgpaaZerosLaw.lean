/- laws.FnExactZeros. -/
import Derived.Test.YtmcbciaeibfgpaaZerosI
import Derived.Test.YtmcbciaeibfgpaaLawLeaf
set_option linter.unusedVariables false
set_option linter.unusedSimpArgs false
namespace Go.Proofs.Ytmcbciaeibfgpaa
open Go.RowKit

set_option maxHeartbeats 1000000 in
theorem lawZeros (h l : Int) (h0 : 0 ≤ h) (h1 : h < 18446744073709551616) (l0 : 0 ≤ l) (l1 : l < 18446744073709551616) (w : World) :
    Calls Try.prog 7 #[.agg #[.int .u64 h, .int .u64 l]] w fun e w' => e = .returned (.bool true) ∧ Gr w w' := by
  go_enter Try.func7, Try.ntmps7
  go_wp2_with (first
    | (go_at_call 16; refine (toWide_any _ _ _).mono ?_; rintro e w1 ⟨rfl, c1, c2, c3, rfl⟩)
    | (go_at_call 22; refine (specZeros_any h l h0 l0 h1 l1 _).mono ?_; rintro e w2 ⟨rfl, hg_w2⟩; have hc_w2 := hg_w2.cells; have hf_w2 := hg_w2.frozens; have hz_w2 := hg_w2.size; (try simp only [World.size_alloc, World.size_drew, World.size_setCell] at hz_w2))
    | (go_at_call 23; refine (implZeros_any h l h0 l0 h1 l1 _).mono ?_; rintro e w3 ⟨rfl, hg_w3⟩))
  go_returns
  exact ⟨rfl, by (repeat' (first | (with_reducible assumption) | (with_reducible exact Gr.refl _) | (with_reducible refine Gr.alloc ?_ _ _) | (with_reducible refine Gr.drew ?_) | (with_reducible refine Gr.setCell ?_ ?_ _) | (with_reducible refine Gr.trans ?_ (by with_reducible assumption)) | go_size))⟩
end Go.Proofs.Ytmcbciaeibfgpaa
