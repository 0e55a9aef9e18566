/- impl.ShiftRight. -/
import Derived.Test.YtmcbciaeibfgpaaShiftLI
import Derived.Test.YtmcbciaeibfgpaaEq
import Derived.Deep.RegionHeld3
set_option linter.unusedVariables false
set_option linter.unusedSimpArgs false
namespace Go.Proofs.Ytmcbciaeibfgpaa
open Go.RowKit

set_option maxHeartbeats 1000000 in
theorem shiftRight_core (h l n A B : Int) (r : Bool) (hh0 : 0 ≤ h) (hl0 : 0 ≤ l) (hh1 : h < 18446744073709551616) (hl1 : l < 18446744073709551616)
    (HL : ∀ w, Calls Try.prog 39 #[.agg #[.int .u64 (shrLo h l (bnd n).toNat), .int .u64 (shrHi h l (bnd n).toNat)], .int .i64 n] w fun e w' => e = .returned (.agg #[.int .u64 A, .int .u64 B]) ∧ Gr w w')
    (hc : (l = A ∧ h = B ∧ r = false) ∨ ((A == l) = false ∧ r = true) ∨ (l = A ∧ (B == h) = false ∧ r = true)) (w : World) :
    Calls Try.prog 21 #[.agg #[.int .u64 h, .int .u64 l], .int .i64 n] w fun e w' => e = .returned (.tuple #[.agg #[.int .u64 (shrHi h l (bnd n).toNat), .int .u64 (shrLo h l (bnd n).toNat)], .bool r]) ∧ Gr w w' := by
  have HLL : Hid _ := HL
  clear HL
  have hq := eqWords A B l h
  rcases hc with ⟨rfl, rfl, rfl⟩ | ⟨hA, rfl⟩ | ⟨rfl, hB, rfl⟩
  all_goals simp only [*, BEq.rfl, Bool.and_true, Bool.true_and, Bool.and_false, Bool.false_and] at hq
  all_goals
    go_enter Try.func21, Try.ntmps21
    go_wp2_with (first
      | (go_at_call 37; refine (wordsOf_any _ _ _).mono ?_; rintro e w1 ⟨rfl, c1, c2, rfl⟩)
      | (go_at_call 40; refine (right_any _ _ n hl0 hh0 hl1 hh1 _).mono ?_; rintro e w2 ⟨rfl, hg_w2⟩; have hc_w2 := hg_w2.cells; have hf_w2 := hg_w2.frozens; have hz_w2 := hg_w2.size; (try simp only [World.size_alloc, World.size_drew, World.size_setCell] at hz_w2)))
    go_region_held3 (fun w' => w'.cell? ⟨w2.heap.size, 0, none⟩ = some (.int .u64 (shrLo h l (bnd n).toNat)) ∧ w'.cell? ⟨w2.heap.size, 1, none⟩ = some (.int .u64 (shrHi h l (bnd n).toNat))
        ∧ w'.cell? ⟨w.heap.size + 1 + 1 + 1 + 1, 0, none⟩ = some (.int .u64 l) ∧ w'.cell? ⟨w.heap.size + 1 + 1 + 1 + 1, 1, none⟩ = some (.int .u64 h))
      ((go_split_ands; (repeat' apply And.intro) <;> (repeat' (first | (with_reducible assumption) | (with_reducible refine has_of (by with_reducible assumption)) | (with_reducible refine Gr.old (by with_reducible assumption) ?_) | (with_reducible refine cell_swap _ ?_ (by with_reducible assumption); omega) | (with_reducible refine cell_setSame ?_) | (with_reducible refine has_old (by with_reducible assumption) ?_) | (with_reducible refine has_set ?_) | (with_reducible refine cell_setOff ?_ ?_; omega) | (with_reducible refine cell_setNew ?_ ?_; (dsimp only; omega)) | (simp [go_sem]; done) | (simp [go_sem]; rfl) | (with_reducible refine cell_alloc _ ?_) | (with_reducible refine cell_drew ?_) | (with_reducible refine has_alloc _ ?_) | (with_reducible refine fz_old (by with_reducible assumption) ?_) | (with_reducible refine fz_alloc ?_) | (with_reducible refine fz_set ?_) | (with_reducible refine fz_drew ?_)))))
      (first
        | (go_at_call 36; refine (wide_gr _ _ _).mono ?_; rintro e w3 ⟨rfl, hg_w3⟩; have hc_w3 := hg_w3.cells; have hf_w3 := hg_w3.frozens; have hz_w3 := hg_w3.size; (try simp only [World.size_alloc, World.size_drew, World.size_setCell] at hz_w3))
        | (go_at_call 39; refine (HLL.out _).mono ?_; rintro e w4 ⟨rfl, hg_w4⟩; have q0 : w4.cell? ⟨w.heap.size + 1, 0, none⟩ = some (.int .u64 0) := (by go_split_ands; (repeat' (first | (with_reducible assumption) | (with_reducible refine has_of (by with_reducible assumption)) | (with_reducible refine Gr.old (by with_reducible assumption) ?_) | (with_reducible refine cell_swap _ ?_ (by with_reducible assumption); omega) | (with_reducible refine cell_setSame ?_) | (with_reducible refine has_old (by with_reducible assumption) ?_) | (with_reducible refine has_set ?_) | (with_reducible refine cell_setOff ?_ ?_; omega) | (with_reducible refine cell_setNew ?_ ?_; (dsimp only; omega)) | (simp [go_sem]; done) | (simp [go_sem]; rfl) | (with_reducible refine cell_alloc _ ?_) | (with_reducible refine cell_drew ?_) | (with_reducible refine has_alloc _ ?_) | (with_reducible refine fz_old (by with_reducible assumption) ?_) | (with_reducible refine fz_alloc ?_) | (with_reducible refine fz_set ?_) | (with_reducible refine fz_drew ?_)))); have q1 : w4.cell? ⟨w.heap.size + 1, 1, none⟩ = some (.int .u64 0) := (by go_split_ands; (repeat' (first | (with_reducible assumption) | (with_reducible refine has_of (by with_reducible assumption)) | (with_reducible refine Gr.old (by with_reducible assumption) ?_) | (with_reducible refine cell_swap _ ?_ (by with_reducible assumption); omega) | (with_reducible refine cell_setSame ?_) | (with_reducible refine has_old (by with_reducible assumption) ?_) | (with_reducible refine has_set ?_) | (with_reducible refine cell_setOff ?_ ?_; omega) | (with_reducible refine cell_setNew ?_ ?_; (dsimp only; omega)) | (simp [go_sem]; done) | (simp [go_sem]; rfl) | (with_reducible refine cell_alloc _ ?_) | (with_reducible refine cell_drew ?_) | (with_reducible refine has_alloc _ ?_) | (with_reducible refine fz_old (by with_reducible assumption) ?_) | (with_reducible refine fz_alloc ?_) | (with_reducible refine fz_set ?_) | (with_reducible refine fz_drew ?_)))); have z0 : w4.frozen? ⟨w.heap.size + 1, 0, none⟩ = false := (by go_split_ands; (repeat' (first | (with_reducible assumption) | (with_reducible refine has_of (by with_reducible assumption)) | (with_reducible refine Gr.old (by with_reducible assumption) ?_) | (with_reducible refine cell_swap _ ?_ (by with_reducible assumption); omega) | (with_reducible refine cell_setSame ?_) | (with_reducible refine has_old (by with_reducible assumption) ?_) | (with_reducible refine has_set ?_) | (with_reducible refine cell_setOff ?_ ?_; omega) | (with_reducible refine cell_setNew ?_ ?_; (dsimp only; omega)) | (simp [go_sem]; done) | (simp [go_sem]; rfl) | (with_reducible refine cell_alloc _ ?_) | (with_reducible refine cell_drew ?_) | (with_reducible refine has_alloc _ ?_) | (with_reducible refine fz_old (by with_reducible assumption) ?_) | (with_reducible refine fz_alloc ?_) | (with_reducible refine fz_set ?_) | (with_reducible refine fz_drew ?_)))); have z1 : w4.frozen? ⟨w.heap.size + 1, 1, none⟩ = false := (by go_split_ands; (repeat' (first | (with_reducible assumption) | (with_reducible refine has_of (by with_reducible assumption)) | (with_reducible refine Gr.old (by with_reducible assumption) ?_) | (with_reducible refine cell_swap _ ?_ (by with_reducible assumption); omega) | (with_reducible refine cell_setSame ?_) | (with_reducible refine has_old (by with_reducible assumption) ?_) | (with_reducible refine has_set ?_) | (with_reducible refine cell_setOff ?_ ?_; omega) | (with_reducible refine cell_setNew ?_ ?_; (dsimp only; omega)) | (simp [go_sem]; done) | (simp [go_sem]; rfl) | (with_reducible refine cell_alloc _ ?_) | (with_reducible refine cell_drew ?_) | (with_reducible refine has_alloc _ ?_) | (with_reducible refine fz_old (by with_reducible assumption) ?_) | (with_reducible refine fz_alloc ?_) | (with_reducible refine fz_set ?_) | (with_reducible refine fz_drew ?_))))))
  all_goals go_wp2
  all_goals
    refine bodyPost_ret (v := .tuple #[.agg #[.int .u64 (shrHi h l (bnd n).toNat), .int .u64 (shrLo h l (bnd n).toNat)], .bool _]) (by simp [results, Try.results21, go_sem, q0, q1]) rfl ⟨rfl, ?_⟩
    (repeat' (first | (with_reducible assumption) | (with_reducible exact Gr.refl _) | (with_reducible refine Gr.alloc ?_ _ _) | (with_reducible refine Gr.drew ?_) | (with_reducible refine Gr.setCell ?_ ?_ _) | (with_reducible refine Gr.trans ?_ (by with_reducible assumption)) | go_size))

theorem shiftRight_any (h l n : Int) (hh0 : 0 ≤ h) (hl0 : 0 ≤ l) (hh1 : h < 18446744073709551616) (hl1 : l < 18446744073709551616) (w : World) :
    Calls Try.prog 21 #[.agg #[.int .u64 h, .int .u64 l], .int .i64 n] w fun e w' => e = .returned (.tuple #[.agg #[.int .u64 (shrHi h l (bnd n).toNat), .int .u64 (shrLo h l (bnd n).toNat)], .bool (shrLost h l (bnd n).toNat)]) ∧ Gr w w' := by
  obtain ⟨hback, k0, k1, k2, k3⟩ := lost_back h l (bnd n).toNat hh0 hl0 hh1 hl1
  refine shiftRight_core h l n _ _ _ hh0 hl0 hh1 hl1 (fun w => left_any _ _ n k2 k0 k3 k1 w) ?_ w
  generalize shlLo (shrHi h l (bnd n).toNat) (shrLo h l (bnd n).toNat) (bnd n).toNat = A at *
  generalize shlHi (shrHi h l (bnd n).toNat) (shrLo h l (bnd n).toNat) (bnd n).toNat = B at *
  generalize shrLost h l (bnd n).toNat = r at *
  by_cases hA : A = l
  · by_cases hB : B = h
    · exact .inl ⟨hA.symm, hB.symm, hback.mp ⟨hB, hA⟩⟩
    · refine .inr (.inr ⟨hA.symm, by simp [hB], ?_⟩)
      cases r
      · exact absurd (hback.mpr rfl).1 hB
      · rfl
  · refine .inr (.inl ⟨by simp [hA], ?_⟩)
    cases r
    · exact absurd (hback.mpr rfl).2 hA
    · rfl

end Go.Proofs.Ytmcbciaeibfgpaa
