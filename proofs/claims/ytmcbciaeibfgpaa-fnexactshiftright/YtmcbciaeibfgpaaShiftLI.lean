/- impl.ShiftLeft. -/
import Derived.Test.YtmcbciaeibfgpaaShift
import Derived.Test.YtmcbciaeibfgpaaWords
set_option linter.unusedVariables false
set_option linter.unusedSimpArgs false
namespace Go.Proofs.Ytmcbciaeibfgpaa
open Go.RowKit

set_option maxHeartbeats 1000000 in
theorem shiftLeft_any (h l n : Int) (hh0 : 0 ≤ h) (hl0 : 0 ≤ l) (hh1 : h < 18446744073709551616) (hl1 : l < 18446744073709551616) (w : World) :
    Calls Try.prog 19 #[.agg #[.int .u64 h, .int .u64 l], .int .i64 n] w fun e w' => e = .returned (.agg #[.int .u64 (shlHi h l (bnd n).toNat), .int .u64 (shlLo h l (bnd n).toNat)]) ∧ Gr w w' := by
  go_enter Try.func19, Try.ntmps19
  go_wp2_with (first
    | (go_at_call 37; refine (wordsOf_any _ _ _).mono ?_; rintro e w1 ⟨rfl, c1, c2, rfl⟩)
    | (go_at_call 39; refine (left_any l h n hl0 hh0 hl1 hh1 _).mono ?_; rintro e w2 ⟨rfl, hg_w2⟩)
    | (go_at_call 36; refine (wide_gr _ _ _).mono ?_; rintro e w3 ⟨rfl, hg_w3⟩; have hf3 := hg_w3.frozens; have hf2 := hg_w2.frozens; have q0 : w3.cell? ⟨w.heap.size + 1, 0, none⟩ = some (.int .u64 0) := (by (repeat' (first | (with_reducible assumption) | (with_reducible refine has_of (by with_reducible assumption)) | (with_reducible refine Gr.old (by with_reducible assumption) ?_) | (with_reducible refine cell_swap _ ?_ (by with_reducible assumption); omega) | (with_reducible refine cell_setSame ?_) | (with_reducible refine has_old (by with_reducible assumption) ?_) | (with_reducible refine has_set ?_) | (with_reducible refine cell_setOff ?_ ?_; omega) | (with_reducible refine cell_setNew ?_ ?_; (dsimp only; omega)) | (simp [go_sem]; done) | (simp [go_sem]; rfl) | (with_reducible refine cell_alloc _ ?_) | (with_reducible refine cell_drew ?_) | (with_reducible refine has_alloc _ ?_) | (with_reducible refine fz_old (by with_reducible assumption) ?_) | (with_reducible refine fz_alloc ?_) | (with_reducible refine fz_set ?_) | (with_reducible refine fz_drew ?_)))); have q1 : w3.cell? ⟨w.heap.size + 1, 1, none⟩ = some (.int .u64 0) := (by (repeat' (first | (with_reducible assumption) | (with_reducible refine has_of (by with_reducible assumption)) | (with_reducible refine Gr.old (by with_reducible assumption) ?_) | (with_reducible refine cell_swap _ ?_ (by with_reducible assumption); omega) | (with_reducible refine cell_setSame ?_) | (with_reducible refine has_old (by with_reducible assumption) ?_) | (with_reducible refine has_set ?_) | (with_reducible refine cell_setOff ?_ ?_; omega) | (with_reducible refine cell_setNew ?_ ?_; (dsimp only; omega)) | (simp [go_sem]; done) | (simp [go_sem]; rfl) | (with_reducible refine cell_alloc _ ?_) | (with_reducible refine cell_drew ?_) | (with_reducible refine has_alloc _ ?_) | (with_reducible refine fz_old (by with_reducible assumption) ?_) | (with_reducible refine fz_alloc ?_) | (with_reducible refine fz_set ?_) | (with_reducible refine fz_drew ?_))))))
  refine bodyPost_ret (v := .agg #[.int .u64 (shlHi h l (bnd n).toNat), .int .u64 (shlLo h l (bnd n).toNat)]) (by simp [results, Try.results19, go_sem, q0, q1]) rfl ⟨rfl, ?_⟩
  (repeat' (first | (with_reducible assumption) | (with_reducible exact Gr.refl _) | (with_reducible refine Gr.alloc ?_ _ _) | (with_reducible refine Gr.drew ?_) | (with_reducible refine Gr.setCell ?_ ?_ _) | (with_reducible refine Gr.trans ?_ (by with_reducible assumption)) | go_size))

/-- What was lost in a right shift is seen by the shift back. -/
theorem lost_back (h l : Int) (k : Nat) (h0 : 0 ≤ h) (l0 : 0 ≤ l) (h1 : h < 18446744073709551616) (l1 : l < 18446744073709551616) :
    (shlHi (shrHi h l k) (shrLo h l k) k = h ∧ shlLo (shrHi h l k) (shrLo h l k) k = l ↔ shrLost h l k = false) ∧ (0 ≤ shrHi h l k ∧ shrHi h l k < 18446744073709551616 ∧ 0 ≤ shrLo h l k ∧ shrLo h l k < 18446744073709551616) := by
  have hp : (0 : Int) < 2 ^ k := Int.pow_pos (by decide)
  unfold shlHi shlLo shrHi shrLo shrLost
  have hV0 : 0 ≤ h * 18446744073709551616 + l := by omega
  have hV1 : h * 18446744073709551616 + l < 340282366920938463463374607431768211456 := by omega
  have eh : h = (h * 18446744073709551616 + l) / 18446744073709551616 := by omega
  have el : l = (h * 18446744073709551616 + l) % 18446744073709551616 := by omega
  generalize h * 18446744073709551616 + l = V at *
  subst eh el
  have e1 : V / 2 ^ k / 18446744073709551616 * 18446744073709551616 + V / 2 ^ k % 18446744073709551616 = V / 2 ^ k := by omega
  rw [e1]
  have e2 : V / 2 ^ k * 2 ^ k + V % 2 ^ k = V := Int.ediv_mul_add_emod V (2 ^ k)
  have e3 : 0 ≤ V % 2 ^ k := Int.emod_nonneg _ (by omega)
  have e4 : 0 ≤ V / 2 ^ k := Int.ediv_nonneg hV0 (by omega)
  have e5 : V / 2 ^ k ≤ V := Int.ediv_le_self _ hV0
  have e6 : 0 ≤ V / 2 ^ k * 2 ^ k := Int.mul_nonneg e4 (by omega)
  generalize V / 2 ^ k * 2 ^ k = T at *
  generalize V / 2 ^ k = D at *
  generalize V % 2 ^ k = R at *
  refine ⟨?_, by omega, by omega, by omega, by omega⟩
  simp only [decide_eq_false_iff_not, Classical.not_not]
  omega
end Go.Proofs.Ytmcbciaeibfgpaa
