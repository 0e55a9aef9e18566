/- impl.SubWide. -/
import Derived.Test.YtmcbciaeibfgpaaMinus
import Derived.Test.YtmcbciaeibfgpaaWords
set_option linter.unusedVariables false
set_option linter.unusedSimpArgs false
namespace Go.Proofs.Ytmcbciaeibfgpaa
open Go.RowKit

set_option maxHeartbeats 1000000 in
theorem subWide_any (ah al bh bl : Int) (ha0 : 0 ≤ ah) (ha1 : ah < 18446744073709551616) (hb0 : 0 ≤ al) (hb1 : al < 18446744073709551616) (hc0 : 0 ≤ bh) (hc1 : bh < 18446744073709551616) (hd0 : 0 ≤ bl) (hd1 : bl < 18446744073709551616) (w : World) :
    Calls Try.prog 25 #[.agg #[.int .u64 ah, .int .u64 al], .agg #[.int .u64 bh, .int .u64 bl]] w fun e w' =>
      e = .returned (.tuple #[.agg #[.int .u64 ((ah - bh - bor al bl) % 18446744073709551616), .int .u64 ((al - bl) % 18446744073709551616)], .bool (lt2 ah al bh bl)]) ∧ Gr w w' := by
  have HL : Hid (lt2 ah al bh bl = (bor ah (bh + bor al bl) != 0)) := rfl
  go_enter Try.func25, Try.ntmps25
  go_wp2
  go_region_held3 (fun w' => w'.cell? ⟨w.heap.size, 0, none⟩ = some (.int .u64 ah) ∧ w'.cell? ⟨w.heap.size, 1, none⟩ = some (.int .u64 al) ∧ w'.cell? ⟨w.heap.size + 1, 0, none⟩ = some (.int .u64 bh) ∧ w'.cell? ⟨w.heap.size + 1, 1, none⟩ = some (.int .u64 bl))
    (simp [go_sem, World.cell?_alloc_past])
    (first
      | (go_at_call 37; refine (wordsOf_any _ _ _).mono ?_; rintro e w1 ⟨rfl, c1, c2, rfl⟩)
      | (go_at_call 43; refine (minus_any al ah bl bh hb0 ha0 hd0 hc0 hd1 hc1 _).mono ?_; rintro e w2 ⟨rfl, d1, d2, d3, d4, rfl⟩))
  all_goals go_wp2_with (go_at_call 36; refine (wide_any _ _ _).mono ?_; rintro e w1 ⟨rfl, f1, f2, rfl⟩)
  all_goals go_returns
  all_goals exact ⟨ret_wb rfl rfl HL.out.symm, ⟨by go_grown, by go_grown⟩⟩
end Go.Proofs.Ytmcbciaeibfgpaa
