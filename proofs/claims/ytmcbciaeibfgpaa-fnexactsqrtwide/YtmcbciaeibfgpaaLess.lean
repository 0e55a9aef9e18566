/- spec.l1Less. -/
import Derived.Test.YtmcbciaeibfgpaaMinus
import Derived.Test.YtmcbciaeibfgpaaWords
set_option linter.unusedVariables false
set_option linter.unusedSimpArgs false
namespace Go.Proofs.Ytmcbciaeibfgpaa
open Go.RowKit

theorem less_any (ah al bh bl : Int) (ha0 : 0 ≤ ah) (hb0 : 0 ≤ al) (hb1 : al < 18446744073709551616) (hc0 : 0 ≤ bh) (hd0 : 0 ≤ bl) (hd1 : bl < 18446744073709551616) (w : World) :
    Calls Try.prog 42 #[.agg #[.int .u64 ah, .int .u64 al], .agg #[.int .u64 bh, .int .u64 bl]] w fun e w' =>
      e = .returned (.bool (lt2 ah al bh bl)) ∧ ∃ c1 c2 : Array Value, w' = (w.alloc (.cells c1 24)).alloc (.cells c2 24) := by
  have HI : Hid _ := lt2_iff ah al bh bl hb0 hd0 hb1 hd1
  by_cases h1 : ah < bh
  · have e : true = lt2 ah al bh bl := by rw [HI.out]; symm; exact decide_eq_true (by omega)
    have E : Hid _ := e
    clear e
    go_enter Try.func42, Try.ntmps42
    go_wp2
    go_ret
    exact ⟨ret_congr (congrArg Value.bool E.out), _, _, rfl⟩
  · by_cases h2 : ah = bh
    · subst h2
      by_cases h3 : al < bl
      · have e : true = lt2 ah al ah bl := by rw [HI.out]; symm; exact decide_eq_true (by omega)
        have E : Hid _ := e
        clear e
        go_enter Try.func42, Try.ntmps42
        go_wp2
        go_ret
        exact ⟨ret_congr (congrArg Value.bool E.out), _, _, rfl⟩
      · have e : false = lt2 ah al ah bl := by rw [HI.out]; symm; exact decide_eq_false (by omega)
        have E : Hid _ := e
        clear e
        go_enter Try.func42, Try.ntmps42
        go_wp2
        go_ret
        exact ⟨ret_congr (congrArg Value.bool E.out), _, _, rfl⟩
    · have e : false = lt2 ah al bh bl := by rw [HI.out]; symm; exact decide_eq_false (by omega)
      have E : Hid _ := e
      have e2 : (ah == bh) = false := by simp [h2]
      have e3 : decide (ah < bh) = false := by simp [h1]
      clear e h2
      go_enter Try.func42, Try.ntmps42
      go_wp2
      go_ret
      exact ⟨ret_congr (congrArg Value.bool E.out), _, _, rfl⟩

end Go.Proofs.Ytmcbciaeibfgpaa
