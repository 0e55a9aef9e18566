/- laws.FnExactDivWide. -/
import Derived.Test.YtmcbciaeibfgpaaSpecDivLoop
import Derived.Test.YtmcbciaeibfgpaaThrough
import Derived.Test.YtmcbciaeibfgpaaLawLeaf
set_option linter.unusedVariables false
set_option linter.unusedSimpArgs false
namespace Go.Proofs.Ytmcbciaeibfgpaa
open Go.RowKit

set_option maxHeartbeats 1000000 in
theorem lawDiv (h l d : Int) (h0 : 0 ≤ h) (h1 : h < 18446744073709551616) (l0 : 0 ≤ l) (l1 : l < 18446744073709551616) (d0 : 0 ≤ d) (d1 : d < 18446744073709551616) (w : World) :
    Calls Try.prog 10 #[.agg #[.int .u64 h, .int .u64 l], .int .u64 d] w fun e w' => e = .returned (.bool true) ∧ Gr w w' := by
  rcases (show d = 0 ∨ 0 < d by omega) with rfl | hd
  · go_enter Try.func10, Try.ntmps10
    go_wp2_with (first
      | (go_at_call 16; refine (toWide_any _ _ _).mono ?_; rintro e w1 ⟨rfl, c1, c2, c3, rfl⟩)
      | (go_at_call 28; refine (specDiv_zero h l _).mono ?_; rintro e w3 ⟨rfl, hg_w3⟩; have hc_w3 := hg_w3.cells; have hf_w3 := hg_w3.frozens; have hz_w3 := hg_w3.size; (try simp only [World.size_alloc, World.size_drew, World.size_setCell] at hz_w3); have hz0 : w.heap.size < w3.heap.size := (by omega))
      | (go_at_call 29; refine (divWide_zero h l _).mono ?_; rintro e w6 ⟨rfl, hg_w6⟩; have hc_w6 := hg_w6.cells; have hf_w6 := hg_w6.frozens; have hz_w6 := hg_w6.size; (try simp only [World.size_alloc, World.size_drew, World.size_setCell] at hz_w6); have hz1 : w3.heap.size < w6.heap.size := (by omega))
      | (go_at_call 14; refine (eqWide_same _ _ _).mono ?_; rintro e w7 ⟨rfl, hg_w7⟩))
    go_returns
    exact ⟨rfl, by (repeat' (first | (with_reducible assumption) | (with_reducible exact Gr.refl _) | (with_reducible refine Gr.alloc ?_ _ _) | (with_reducible refine Gr.drew ?_) | (with_reducible refine Gr.setCell ?_ ?_ _) | (with_reducible refine Gr.trans ?_ (by with_reducible assumption)) | go_size))⟩
  · obtain ⟨Q1, hQ1⟩ : ∃ x, x = (h * 18446744073709551616 + l) / d / 18446744073709551616 := ⟨_, rfl⟩
    obtain ⟨Q0, hQ0⟩ : ∃ x, x = (h * 18446744073709551616 + l) / d % 18446744073709551616 := ⟨_, rfl⟩
    obtain ⟨R, hR⟩ : ∃ x, x = (h * 18446744073709551616 + l) % d := ⟨_, rfl⟩
    have HS := fun w => specDiv_any h l d hd d1 h0 h1 l0 l1 w
    have HI := fun w => divWide_any h l d hd d1 h0 h1 l0 l1 w
    rw [← hQ1, ← hQ0, ← hR] at HS HI
    clear hQ1 hQ0 hR
    have HSh : Hid _ := HS
    have HIh : Hid _ := HI
    clear HS HI
    go_enter Try.func10, Try.ntmps10
    go_wp2_with (first
      | (go_at_call 16; refine (toWide_any _ _ _).mono ?_; rintro e w1 ⟨rfl, c1, c2, c3, rfl⟩)
      | (go_at_call 28; refine (HSh.out _).mono ?_; rintro e w3 ⟨rfl, hg_w3⟩; have hc_w3 := hg_w3.cells; have hf_w3 := hg_w3.frozens; have hz_w3 := hg_w3.size; (try simp only [World.size_alloc, World.size_drew, World.size_setCell] at hz_w3); have hz0 : w.heap.size < w3.heap.size := (by omega))
      | (go_at_call 29; refine (HIh.out _).mono ?_; rintro e w6 ⟨rfl, hg_w6⟩; have hc_w6 := hg_w6.cells; have hf_w6 := hg_w6.frozens; have hz_w6 := hg_w6.size; (try simp only [World.size_alloc, World.size_drew, World.size_setCell] at hz_w6); have hz1 : w3.heap.size < w6.heap.size := (by omega))
      | (go_at_call 14; refine (eqWide_same _ _ _).mono ?_; rintro e w7 ⟨rfl, hg_w7⟩))
    go_returns
    exact ⟨rfl, by (repeat' (first | (with_reducible assumption) | (with_reducible exact Gr.refl _) | (with_reducible refine Gr.alloc ?_ _ _) | (with_reducible refine Gr.drew ?_) | (with_reducible refine Gr.setCell ?_ ?_ _) | (with_reducible refine Gr.trans ?_ (by with_reducible assumption)) | go_size))⟩
end Go.Proofs.Ytmcbciaeibfgpaa
