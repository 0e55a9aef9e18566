/- spec.l2Round: the ways with one cut. -/
import Derived.Test.YtkackkggpehpkaaGreatDoorA8
import Derived.Deep.RegionHeld3
set_option linter.unusedVariables false
set_option linter.unusedSimpArgs false
set_option maxHeartbeats 40000000
namespace Go.Proofs.YtkackkggpehpkaaGreatDoor
open Go.RowKit

set_option maxRecDepth 1000000 in
theorem l2Round_O {v : Value} {M : Nat} {w : World} {f p mn mx one mode sign e : Int} {rest : Bool} (HB : Hid (BigN 100000 w v M)) (HR : Hid (RC f p mn mx one mode sign w)) (b1 : 24 ≤ p) (b2 : p ≤ 53) (b3 : -1022 ≤ mn) (b4 : mn ≤ -126) (b5 : 127 ≤ mx) (b6 : mx ≤ 1023) (b7 : 0 ≤ one) (b8 : one ≤ 4503599627370496) (n1 : (nb M : Int) ≤ 4000000) (e0 : -1000000 ≤ e) (e1 : e ≤ 1000000) (te top : Int) (ht : (nb M : Int) + e = te) (htop : te - 1 = top) (z : Int) (HOver : Hid (∀ w', Calls Tryz.prog 113 #[.int .i64 f, .int .i64 mode, .int .i64 sign] w' fun x w'' => x = .returned (.agg #[.int .u64 z, .int .i64 20]) ∧ Gr w' w'')) (c : mx < top) :
  Calls Tryz.prog 64 #[.int .i64 f, .int .i64 mode, .agg #[.int .i64 sign, v, .int .i64 e, .bool rest]] w fun x w' => x = .returned (.agg #[.int .u64 z, .int .i64 20]) ∧ Gb w w' := by
 have u1 : IntKind.i64.wrap ((nb M : Int) + e) = te := by rw [ht]; rw [IntKind.wrap_i64]; omega
 have u2 : IntKind.i64.wrap (te - 1) = top := by rw [htop]; rw [IntKind.wrap_i64]; omega
 have tb : -1000001 ≤ top ∧ top ≤ 5000001 := by omega
 clear ht htop
 go_enter Tryz.func64, Tryz.ntmps64
 go_wp2
 go_region_held3 (fun w' => w'.cell? ⟨w.heap.size, 0, none⟩ = some (.int .i64 sign) ∧ w'.cell? ⟨w.heap.size, 1, none⟩ = some (v) ∧ w'.cell? ⟨w.heap.size, 2, none⟩ = some (.int .i64 e) ∧ w'.cell? ⟨w.heap.size, 3, none⟩ = some (.bool rest) ∧ w'.cell? ⟨w.heap.size + 1, 0, none⟩ = some (.int .u64 0) ∧ w'.frozen? ⟨w.heap.size + 1, 0, none⟩ = false ∧ w'.cell? ⟨w.heap.size + 1, 1, none⟩ = some (.int .i64 0) ∧ w'.frozen? ⟨w.heap.size + 1, 1, none⟩ = false)
  ((go_split_ands; (repeat' apply And.intro) <;> (repeat' (first | (with_reducible assumption) | (with_reducible refine has_of (by with_reducible assumption)) | (with_reducible refine Gr.old (by with_reducible assumption) ?_) | (with_reducible refine Gb.old (by with_reducible assumption) ?_) | (with_reducible refine cell_swap _ ?_ (by with_reducible assumption); omega) | (with_reducible refine cell_setSame ?_) | (with_reducible refine has_old (by with_reducible assumption) ?_) | (with_reducible refine has_set ?_) | (with_reducible refine cell_setOff ?_ ?_; omega) | (with_reducible refine cell_setNew ?_ ?_; (dsimp only; omega)) | (simp [go_sem]; done) | (simp [go_sem]; rfl) | (with_reducible refine cell_alloc _ ?_) | (with_reducible refine cell_drew ?_) | (with_reducible refine has_alloc _ ?_) | (with_reducible refine fz_old (by with_reducible assumption) ?_) | (with_reducible refine Gb.fzc (by with_reducible assumption) (by first | (with_reducible assumption) | (with_reducible exact cell_drew (by with_reducible assumption))) ?_) | (with_reducible refine Gb.fz (by with_reducible assumption) ?_ ?_) | go_size | (with_reducible refine fz_alloc ?_) | (with_reducible refine fz_set ?_) | (with_reducible refine fz_drew ?_)))))
  (first | (go_at_call 111; refine kw (RC.len HR.out 100000 _ M _ (by omega) (BigN.gb HB.out kg)) ?_))
 all_goals
  (try go_split_ands)
  go_wp2_with (first
   | (go_at_call 112; refine kw (RC.max HR.out _) ?_)
   | (go_at_call 114; refine kw (RC.min HR.out _) ?_)
   | (go_at_call 77; refine kw (RC.prec HR.out _) ?_)
   | (go_at_call 109; refine kw (RC.two HR.out _) ?_)
   | (go_at_call 115; refine (HCut.out _ kg).mono ?_; rintro x wc ⟨vL, rfl, hbL, hgc⟩; obtain ⟨cx0, cx1, cx2, cx3⟩ : KE4 wc w.heap.size 0 1 2 3 (.int .i64 sign) (v) (.int .i64 e) (.bool rest) := ⟨ks, ks, ks, ks⟩; obtain ⟨cr0, cz0, cr1, cz1⟩ : KF2 wc (w.heap.size + 1) 0 1 (.int .u64 0) (.int .i64 0) := ⟨ks, ks, ks, ks⟩)
   | (go_at_call 116; refine (RC.choose HR.out _ lo half _ (by first | (with_reducible assumption) | (refine BigN.gb (by with_reducible assumption) kg)) hhalf).mono ?_; rintro x wd ⟨vr, rfl, hbr, hgd⟩; (try rw [hr] at hbr); obtain ⟨dx0, dx1, dx2, dx3⟩ : KE4 wd w.heap.size 0 1 2 3 (.int .i64 sign) (v) (.int .i64 e) (.bool rest) := ⟨ks, ks, ks, ks⟩; obtain ⟨dr0, dz0, dr1, dz1⟩ : KF2 wd (w.heap.size + 1) 0 1 (.int .u64 0) (.int .i64 0) := ⟨ks, ks, ks, ks⟩)
   | (go_at_call 111; refine (RC.len HR.out 190000 _ r _ (by omega) (by first | (with_reducible assumption) | (refine BigN.gb (by with_reducible assumption) kg))).mono ?_; rintro x wk ⟨rfl, hw⟩; subst hw)
   | (go_at_call 117; refine (RC.word HR.out _ r _ (by first | (with_reducible assumption) | (refine BigN.gb (by with_reducible assumption) kg)) hr64).mono ?_; rintro x wk ⟨rfl, hw⟩; subst hw)
   | (go_at_call 85; refine kw (HPut.out _) ?_)
   | (go_at_call 113; refine (HOver.out _).mono ?_; rintro x wo ⟨rfl, hgo⟩; obtain ⟨ox0, ox1, ox2, ox3⟩ : KE4 wo w.heap.size 0 1 2 3 (.int .i64 sign) (v) (.int .i64 e) (.bool rest) := ⟨ks, ks, ks, ks⟩; obtain ⟨or0, oz0, or1, oz1⟩ : KF2 wo (w.heap.size + 1) 0 1 (.int .u64 0) (.int .i64 0) := ⟨ks, ks, ks, ks⟩))
  refine bodyPost_ret (v := .agg #[.int .u64 z, .int .i64 20]) (by simp [results, Tryz.results64, go_sem, or0, or1]) rfl ⟨rfl, ?_⟩
  exact kg



set_option maxRecDepth 1000000 in
theorem l2Round_S0 {v : Value} {M : Nat} {w : World} {f p mn mx one mode sign e : Int} {rest : Bool} (HB : Hid (BigN 100000 w v M)) (HR : Hid (RC f p mn mx one mode sign w)) (b1 : 24 ≤ p) (b2 : p ≤ 53) (b3 : -1022 ≤ mn) (b4 : mn ≤ -126) (b5 : 127 ≤ mx) (b6 : mx ≤ 1023) (b7 : 0 ≤ one) (b8 : one ≤ 4503599627370496) (n1 : (nb M : Int) ≤ 4000000) (e0 : -1000000 ≤ e) (e1 : e ≤ 1000000) (te top : Int) (ht : (nb M : Int) + e = te) (htop : te - 1 = top) (c0 : mn - p - 2 ≤ top) (c1 : top < mn) (lo half : Nat) (HCut : Hid (∀ w', Gb w w' → Calls Tryz.prog 115 #[.agg #[.int .i64 sign, v, .int .i64 e, .bool rest], .int .i64 (mn - p + 1)] w' fun x w'' => ∃ vL, x = .returned (.tuple #[vL, .int .i64 (half : Int)]) ∧ BigN 180000 w'' vL lo ∧ Gb w' w'')) (hhalf : half ≤ 3) (r : Nat) (hr : chosen mode sign lo half = r) (hr64 : r < 18446744073709551616) (z : Int) (HPut : Hid (∀ w', Calls Tryz.prog 85 #[.int .i64 f, .int .i64 sign, .int .u64 r] w' fun x w'' => x = .returned (.int .u64 z) ∧ w' = w'')) (hL : (nb r : Int) ≤ 60) (hh : (half : Int) ≤ 0) :
  Calls Tryz.prog 64 #[.int .i64 f, .int .i64 mode, .agg #[.int .i64 sign, v, .int .i64 e, .bool rest]] w fun x w' => x = .returned (.agg #[.int .u64 z, .int .i64 0]) ∧ Gb w w' := by
 have u1 : IntKind.i64.wrap ((nb M : Int) + e) = te := by rw [ht]; rw [IntKind.wrap_i64]; omega
 have u2 : IntKind.i64.wrap (te - 1) = top := by rw [htop]; rw [IntKind.wrap_i64]; omega
 have tb : -1000001 ≤ top ∧ top ≤ 5000001 := by omega
 clear ht htop
 go_enter Tryz.func64, Tryz.ntmps64
 go_wp2
 go_region_held3 (fun w' => w'.cell? ⟨w.heap.size, 0, none⟩ = some (.int .i64 sign) ∧ w'.cell? ⟨w.heap.size, 1, none⟩ = some (v) ∧ w'.cell? ⟨w.heap.size, 2, none⟩ = some (.int .i64 e) ∧ w'.cell? ⟨w.heap.size, 3, none⟩ = some (.bool rest) ∧ w'.cell? ⟨w.heap.size + 1, 0, none⟩ = some (.int .u64 0) ∧ w'.frozen? ⟨w.heap.size + 1, 0, none⟩ = false ∧ w'.cell? ⟨w.heap.size + 1, 1, none⟩ = some (.int .i64 0) ∧ w'.frozen? ⟨w.heap.size + 1, 1, none⟩ = false)
  ((go_split_ands; (repeat' apply And.intro) <;> (repeat' (first | (with_reducible assumption) | (with_reducible refine has_of (by with_reducible assumption)) | (with_reducible refine Gr.old (by with_reducible assumption) ?_) | (with_reducible refine Gb.old (by with_reducible assumption) ?_) | (with_reducible refine cell_swap _ ?_ (by with_reducible assumption); omega) | (with_reducible refine cell_setSame ?_) | (with_reducible refine has_old (by with_reducible assumption) ?_) | (with_reducible refine has_set ?_) | (with_reducible refine cell_setOff ?_ ?_; omega) | (with_reducible refine cell_setNew ?_ ?_; (dsimp only; omega)) | (simp [go_sem]; done) | (simp [go_sem]; rfl) | (with_reducible refine cell_alloc _ ?_) | (with_reducible refine cell_drew ?_) | (with_reducible refine has_alloc _ ?_) | (with_reducible refine fz_old (by with_reducible assumption) ?_) | (with_reducible refine Gb.fzc (by with_reducible assumption) (by first | (with_reducible assumption) | (with_reducible exact cell_drew (by with_reducible assumption))) ?_) | (with_reducible refine Gb.fz (by with_reducible assumption) ?_ ?_) | go_size | (with_reducible refine fz_alloc ?_) | (with_reducible refine fz_set ?_) | (with_reducible refine fz_drew ?_)))))
  (first | (go_at_call 111; refine kw (RC.len HR.out 100000 _ M _ (by omega) (BigN.gb HB.out kg)) ?_))
 all_goals
  (try go_split_ands)
  go_wp2_with (first
   | (go_at_call 112; refine kw (RC.max HR.out _) ?_)
   | (go_at_call 114; refine kw (RC.min HR.out _) ?_)
   | (go_at_call 77; refine kw (RC.prec HR.out _) ?_)
   | (go_at_call 109; refine kw (RC.two HR.out _) ?_)
   | (go_at_call 115; refine (HCut.out _ kg).mono ?_; rintro x wc ⟨vL, rfl, hbL, hgc⟩; obtain ⟨cx0, cx1, cx2, cx3⟩ : KE4 wc w.heap.size 0 1 2 3 (.int .i64 sign) (v) (.int .i64 e) (.bool rest) := ⟨ks, ks, ks, ks⟩; obtain ⟨cr0, cz0, cr1, cz1⟩ : KF2 wc (w.heap.size + 1) 0 1 (.int .u64 0) (.int .i64 0) := ⟨ks, ks, ks, ks⟩)
   | (go_at_call 116; refine (RC.choose HR.out _ lo half _ (by first | (with_reducible assumption) | (refine BigN.gb (by with_reducible assumption) kg)) hhalf).mono ?_; rintro x wd ⟨vr, rfl, hbr, hgd⟩; (try rw [hr] at hbr); obtain ⟨dx0, dx1, dx2, dx3⟩ : KE4 wd w.heap.size 0 1 2 3 (.int .i64 sign) (v) (.int .i64 e) (.bool rest) := ⟨ks, ks, ks, ks⟩; obtain ⟨dr0, dz0, dr1, dz1⟩ : KF2 wd (w.heap.size + 1) 0 1 (.int .u64 0) (.int .i64 0) := ⟨ks, ks, ks, ks⟩)
   | (go_at_call 111; refine (RC.len HR.out 190000 _ r _ (by omega) (by first | (with_reducible assumption) | (refine BigN.gb (by with_reducible assumption) kg))).mono ?_; rintro x wk ⟨rfl, hw⟩; subst hw)
   | (go_at_call 117; refine (RC.word HR.out _ r _ (by first | (with_reducible assumption) | (refine BigN.gb (by with_reducible assumption) kg)) hr64).mono ?_; rintro x wk ⟨rfl, hw⟩; subst hw)
   | (go_at_call 85; refine kw (HPut.out _) ?_)
   | (go_at_call 113; refine (HOver.out _).mono ?_; rintro x wo ⟨rfl, hgo⟩; obtain ⟨ox0, ox1, ox2, ox3⟩ : KE4 wo w.heap.size 0 1 2 3 (.int .i64 sign) (v) (.int .i64 e) (.bool rest) := ⟨ks, ks, ks, ks⟩; obtain ⟨or0, oz0, or1, oz1⟩ : KF2 wo (w.heap.size + 1) 0 1 (.int .u64 0) (.int .i64 0) := ⟨ks, ks, ks, ks⟩))
  refine bodyPost_ret (v := .agg #[.int .u64 z, .int .i64 0]) (by simp [results, Tryz.results64, go_sem, dr0, dr1]) rfl ⟨rfl, ?_⟩
  exact kg



set_option maxRecDepth 1000000 in
theorem l2Round_TO {v : Value} {M : Nat} {w : World} {f p mn mx one mode sign e : Int} {rest : Bool} (HB : Hid (BigN 100000 w v M)) (HR : Hid (RC f p mn mx one mode sign w)) (b1 : 24 ≤ p) (b2 : p ≤ 53) (b3 : -1022 ≤ mn) (b4 : mn ≤ -126) (b5 : 127 ≤ mx) (b6 : mx ≤ 1023) (b7 : 0 ≤ one) (b8 : one ≤ 4503599627370496) (n1 : (nb M : Int) ≤ 4000000) (e0 : -1000000 ≤ e) (e1 : e ≤ 1000000) (te top : Int) (ht : (nb M : Int) + e = te) (htop : te - 1 = top) (c0 : mn ≤ top) (c1 : top ≤ mx) (lo half : Nat) (HCut : Hid (∀ w', Gb w w' → Calls Tryz.prog 115 #[.agg #[.int .i64 sign, v, .int .i64 e, .bool rest], .int .i64 (top - p + 1)] w' fun x w'' => ∃ vL, x = .returned (.tuple #[vL, .int .i64 (half : Int)]) ∧ BigN 180000 w'' vL lo ∧ Gb w' w'')) (hhalf : half ≤ 3) (r : Nat) (hr : chosen mode sign lo half = r) (hr64 : r < 18446744073709551616) (hL : (nb r : Int) ≤ 60) (z : Int) (HOver : Hid (∀ w', Calls Tryz.prog 113 #[.int .i64 f, .int .i64 mode, .int .i64 sign] w' fun x w'' => x = .returned (.agg #[.int .u64 z, .int .i64 20]) ∧ Gr w' w'')) (hov : mx < (nb r : Int) + (top - p + 1) - 1) :
  Calls Tryz.prog 64 #[.int .i64 f, .int .i64 mode, .agg #[.int .i64 sign, v, .int .i64 e, .bool rest]] w fun x w' => x = .returned (.agg #[.int .u64 z, .int .i64 20]) ∧ Gb w w' := by
 have u1 : IntKind.i64.wrap ((nb M : Int) + e) = te := by rw [ht]; rw [IntKind.wrap_i64]; omega
 have u2 : IntKind.i64.wrap (te - 1) = top := by rw [htop]; rw [IntKind.wrap_i64]; omega
 have tb : -1000001 ≤ top ∧ top ≤ 5000001 := by omega
 clear ht htop
 go_enter Tryz.func64, Tryz.ntmps64
 go_wp2
 go_region_held3 (fun w' => w'.cell? ⟨w.heap.size, 0, none⟩ = some (.int .i64 sign) ∧ w'.cell? ⟨w.heap.size, 1, none⟩ = some (v) ∧ w'.cell? ⟨w.heap.size, 2, none⟩ = some (.int .i64 e) ∧ w'.cell? ⟨w.heap.size, 3, none⟩ = some (.bool rest) ∧ w'.cell? ⟨w.heap.size + 1, 0, none⟩ = some (.int .u64 0) ∧ w'.frozen? ⟨w.heap.size + 1, 0, none⟩ = false ∧ w'.cell? ⟨w.heap.size + 1, 1, none⟩ = some (.int .i64 0) ∧ w'.frozen? ⟨w.heap.size + 1, 1, none⟩ = false)
  ((go_split_ands; (repeat' apply And.intro) <;> (repeat' (first | (with_reducible assumption) | (with_reducible refine has_of (by with_reducible assumption)) | (with_reducible refine Gr.old (by with_reducible assumption) ?_) | (with_reducible refine Gb.old (by with_reducible assumption) ?_) | (with_reducible refine cell_swap _ ?_ (by with_reducible assumption); omega) | (with_reducible refine cell_setSame ?_) | (with_reducible refine has_old (by with_reducible assumption) ?_) | (with_reducible refine has_set ?_) | (with_reducible refine cell_setOff ?_ ?_; omega) | (with_reducible refine cell_setNew ?_ ?_; (dsimp only; omega)) | (simp [go_sem]; done) | (simp [go_sem]; rfl) | (with_reducible refine cell_alloc _ ?_) | (with_reducible refine cell_drew ?_) | (with_reducible refine has_alloc _ ?_) | (with_reducible refine fz_old (by with_reducible assumption) ?_) | (with_reducible refine Gb.fzc (by with_reducible assumption) (by first | (with_reducible assumption) | (with_reducible exact cell_drew (by with_reducible assumption))) ?_) | (with_reducible refine Gb.fz (by with_reducible assumption) ?_ ?_) | go_size | (with_reducible refine fz_alloc ?_) | (with_reducible refine fz_set ?_) | (with_reducible refine fz_drew ?_)))))
  (first | (go_at_call 111; refine kw (RC.len HR.out 100000 _ M _ (by omega) (BigN.gb HB.out kg)) ?_))
 all_goals
  (try go_split_ands)
  go_wp2_with (first
   | (go_at_call 112; refine kw (RC.max HR.out _) ?_)
   | (go_at_call 114; refine kw (RC.min HR.out _) ?_)
   | (go_at_call 77; refine kw (RC.prec HR.out _) ?_)
   | (go_at_call 109; refine kw (RC.two HR.out _) ?_)
   | (go_at_call 115; refine (HCut.out _ kg).mono ?_; rintro x wc ⟨vL, rfl, hbL, hgc⟩; obtain ⟨cx0, cx1, cx2, cx3⟩ : KE4 wc w.heap.size 0 1 2 3 (.int .i64 sign) (v) (.int .i64 e) (.bool rest) := ⟨ks, ks, ks, ks⟩; obtain ⟨cr0, cz0, cr1, cz1⟩ : KF2 wc (w.heap.size + 1) 0 1 (.int .u64 0) (.int .i64 0) := ⟨ks, ks, ks, ks⟩)
   | (go_at_call 116; refine (RC.choose HR.out _ lo half _ (by first | (with_reducible assumption) | (refine BigN.gb (by with_reducible assumption) kg)) hhalf).mono ?_; rintro x wd ⟨vr, rfl, hbr, hgd⟩; (try rw [hr] at hbr); obtain ⟨dx0, dx1, dx2, dx3⟩ : KE4 wd w.heap.size 0 1 2 3 (.int .i64 sign) (v) (.int .i64 e) (.bool rest) := ⟨ks, ks, ks, ks⟩; obtain ⟨dr0, dz0, dr1, dz1⟩ : KF2 wd (w.heap.size + 1) 0 1 (.int .u64 0) (.int .i64 0) := ⟨ks, ks, ks, ks⟩)
   | (go_at_call 111; refine (RC.len HR.out 190000 _ r _ (by omega) (by first | (with_reducible assumption) | (refine BigN.gb (by with_reducible assumption) kg))).mono ?_; rintro x wk ⟨rfl, hw⟩; subst hw)
   | (go_at_call 117; refine (RC.word HR.out _ r _ (by first | (with_reducible assumption) | (refine BigN.gb (by with_reducible assumption) kg)) hr64).mono ?_; rintro x wk ⟨rfl, hw⟩; subst hw)
   | (go_at_call 85; refine kw (HPut.out _) ?_)
   | (go_at_call 113; refine (HOver.out _).mono ?_; rintro x wo ⟨rfl, hgo⟩; obtain ⟨ox0, ox1, ox2, ox3⟩ : KE4 wo w.heap.size 0 1 2 3 (.int .i64 sign) (v) (.int .i64 e) (.bool rest) := ⟨ks, ks, ks, ks⟩; obtain ⟨or0, oz0, or1, oz1⟩ : KF2 wo (w.heap.size + 1) 0 1 (.int .u64 0) (.int .i64 0) := ⟨ks, ks, ks, ks⟩))
  refine bodyPost_ret (v := .agg #[.int .u64 z, .int .i64 20]) (by simp [results, Tryz.results64, go_sem, or0, or1]) rfl ⟨rfl, ?_⟩
  exact kg



set_option maxRecDepth 1000000 in
theorem l2Round_TE0 {v : Value} {M : Nat} {w : World} {f p mn mx one mode sign e : Int} {rest : Bool} (HB : Hid (BigN 100000 w v M)) (HR : Hid (RC f p mn mx one mode sign w)) (b1 : 24 ≤ p) (b2 : p ≤ 53) (b3 : -1022 ≤ mn) (b4 : mn ≤ -126) (b5 : 127 ≤ mx) (b6 : mx ≤ 1023) (b7 : 0 ≤ one) (b8 : one ≤ 4503599627370496) (n1 : (nb M : Int) ≤ 4000000) (e0 : -1000000 ≤ e) (e1 : e ≤ 1000000) (te top : Int) (ht : (nb M : Int) + e = te) (htop : te - 1 = top) (c0 : mn ≤ top) (c2 : top ≤ mn) (c1 : top ≤ mx) (lo half : Nat) (HCut : Hid (∀ w', Gb w w' → Calls Tryz.prog 115 #[.agg #[.int .i64 sign, v, .int .i64 e, .bool rest], .int .i64 (top - p + 1)] w' fun x w'' => ∃ vL, x = .returned (.tuple #[vL, .int .i64 (half : Int)]) ∧ BigN 180000 w'' vL lo ∧ Gb w' w'')) (hhalf : half ≤ 3) (r : Nat) (hr : chosen mode sign lo half = r) (hr64 : r < 18446744073709551616) (hL : (nb r : Int) ≤ 60) (z : Int) (HPut : Hid (∀ w', Calls Tryz.prog 85 #[.int .i64 f, .int .i64 sign, .int .u64 r] w' fun x w'' => x = .returned (.int .u64 z) ∧ w' = w'')) (hov : (nb r : Int) + (top - p + 1) - 1 ≤ mx) (hh : (half : Int) ≤ 0) :
  Calls Tryz.prog 64 #[.int .i64 f, .int .i64 mode, .agg #[.int .i64 sign, v, .int .i64 e, .bool rest]] w fun x w' => x = .returned (.agg #[.int .u64 z, .int .i64 0]) ∧ Gb w w' := by
 have u1 : IntKind.i64.wrap ((nb M : Int) + e) = te := by rw [ht]; rw [IntKind.wrap_i64]; omega
 have u2 : IntKind.i64.wrap (te - 1) = top := by rw [htop]; rw [IntKind.wrap_i64]; omega
 have tb : -1000001 ≤ top ∧ top ≤ 5000001 := by omega
 clear ht htop
 go_enter Tryz.func64, Tryz.ntmps64
 go_wp2
 go_region_held3 (fun w' => w'.cell? ⟨w.heap.size, 0, none⟩ = some (.int .i64 sign) ∧ w'.cell? ⟨w.heap.size, 1, none⟩ = some (v) ∧ w'.cell? ⟨w.heap.size, 2, none⟩ = some (.int .i64 e) ∧ w'.cell? ⟨w.heap.size, 3, none⟩ = some (.bool rest) ∧ w'.cell? ⟨w.heap.size + 1, 0, none⟩ = some (.int .u64 0) ∧ w'.frozen? ⟨w.heap.size + 1, 0, none⟩ = false ∧ w'.cell? ⟨w.heap.size + 1, 1, none⟩ = some (.int .i64 0) ∧ w'.frozen? ⟨w.heap.size + 1, 1, none⟩ = false)
  ((go_split_ands; (repeat' apply And.intro) <;> (repeat' (first | (with_reducible assumption) | (with_reducible refine has_of (by with_reducible assumption)) | (with_reducible refine Gr.old (by with_reducible assumption) ?_) | (with_reducible refine Gb.old (by with_reducible assumption) ?_) | (with_reducible refine cell_swap _ ?_ (by with_reducible assumption); omega) | (with_reducible refine cell_setSame ?_) | (with_reducible refine has_old (by with_reducible assumption) ?_) | (with_reducible refine has_set ?_) | (with_reducible refine cell_setOff ?_ ?_; omega) | (with_reducible refine cell_setNew ?_ ?_; (dsimp only; omega)) | (simp [go_sem]; done) | (simp [go_sem]; rfl) | (with_reducible refine cell_alloc _ ?_) | (with_reducible refine cell_drew ?_) | (with_reducible refine has_alloc _ ?_) | (with_reducible refine fz_old (by with_reducible assumption) ?_) | (with_reducible refine Gb.fzc (by with_reducible assumption) (by first | (with_reducible assumption) | (with_reducible exact cell_drew (by with_reducible assumption))) ?_) | (with_reducible refine Gb.fz (by with_reducible assumption) ?_ ?_) | go_size | (with_reducible refine fz_alloc ?_) | (with_reducible refine fz_set ?_) | (with_reducible refine fz_drew ?_)))))
  (first | (go_at_call 111; refine kw (RC.len HR.out 100000 _ M _ (by omega) (BigN.gb HB.out kg)) ?_))
 all_goals
  (try go_split_ands)
  go_wp2_with (first
   | (go_at_call 112; refine kw (RC.max HR.out _) ?_)
   | (go_at_call 114; refine kw (RC.min HR.out _) ?_)
   | (go_at_call 77; refine kw (RC.prec HR.out _) ?_)
   | (go_at_call 109; refine kw (RC.two HR.out _) ?_)
   | (go_at_call 115; refine (HCut.out _ kg).mono ?_; rintro x wc ⟨vL, rfl, hbL, hgc⟩; obtain ⟨cx0, cx1, cx2, cx3⟩ : KE4 wc w.heap.size 0 1 2 3 (.int .i64 sign) (v) (.int .i64 e) (.bool rest) := ⟨ks, ks, ks, ks⟩; obtain ⟨cr0, cz0, cr1, cz1⟩ : KF2 wc (w.heap.size + 1) 0 1 (.int .u64 0) (.int .i64 0) := ⟨ks, ks, ks, ks⟩)
   | (go_at_call 116; refine (RC.choose HR.out _ lo half _ (by first | (with_reducible assumption) | (refine BigN.gb (by with_reducible assumption) kg)) hhalf).mono ?_; rintro x wd ⟨vr, rfl, hbr, hgd⟩; (try rw [hr] at hbr); obtain ⟨dx0, dx1, dx2, dx3⟩ : KE4 wd w.heap.size 0 1 2 3 (.int .i64 sign) (v) (.int .i64 e) (.bool rest) := ⟨ks, ks, ks, ks⟩; obtain ⟨dr0, dz0, dr1, dz1⟩ : KF2 wd (w.heap.size + 1) 0 1 (.int .u64 0) (.int .i64 0) := ⟨ks, ks, ks, ks⟩)
   | (go_at_call 111; refine (RC.len HR.out 190000 _ r _ (by omega) (by first | (with_reducible assumption) | (refine BigN.gb (by with_reducible assumption) kg))).mono ?_; rintro x wk ⟨rfl, hw⟩; subst hw)
   | (go_at_call 117; refine (RC.word HR.out _ r _ (by first | (with_reducible assumption) | (refine BigN.gb (by with_reducible assumption) kg)) hr64).mono ?_; rintro x wk ⟨rfl, hw⟩; subst hw)
   | (go_at_call 85; refine kw (HPut.out _) ?_)
   | (go_at_call 113; refine (HOver.out _).mono ?_; rintro x wo ⟨rfl, hgo⟩; obtain ⟨ox0, ox1, ox2, ox3⟩ : KE4 wo w.heap.size 0 1 2 3 (.int .i64 sign) (v) (.int .i64 e) (.bool rest) := ⟨ks, ks, ks, ks⟩; obtain ⟨or0, oz0, or1, oz1⟩ : KF2 wo (w.heap.size + 1) 0 1 (.int .u64 0) (.int .i64 0) := ⟨ks, ks, ks, ks⟩))
  refine bodyPost_ret (v := .agg #[.int .u64 z, .int .i64 0]) (by simp [results, Tryz.results64, go_sem, dr0, dr1]) rfl ⟨rfl, ?_⟩
  exact kg



set_option maxRecDepth 1000000 in
theorem l2Round_T0 {v : Value} {M : Nat} {w : World} {f p mn mx one mode sign e : Int} {rest : Bool} (HB : Hid (BigN 100000 w v M)) (HR : Hid (RC f p mn mx one mode sign w)) (b1 : 24 ≤ p) (b2 : p ≤ 53) (b3 : -1022 ≤ mn) (b4 : mn ≤ -126) (b5 : 127 ≤ mx) (b6 : mx ≤ 1023) (b7 : 0 ≤ one) (b8 : one ≤ 4503599627370496) (n1 : (nb M : Int) ≤ 4000000) (e0 : -1000000 ≤ e) (e1 : e ≤ 1000000) (te top : Int) (ht : (nb M : Int) + e = te) (htop : te - 1 = top) (c2 : mn < top) (c1 : top ≤ mx) (lo half : Nat) (HCut : Hid (∀ w', Gb w w' → Calls Tryz.prog 115 #[.agg #[.int .i64 sign, v, .int .i64 e, .bool rest], .int .i64 (top - p + 1)] w' fun x w'' => ∃ vL, x = .returned (.tuple #[vL, .int .i64 (half : Int)]) ∧ BigN 180000 w'' vL lo ∧ Gb w' w'')) (hhalf : half ≤ 3) (r : Nat) (hr : chosen mode sign lo half = r) (hr64 : r < 18446744073709551616) (hL : (nb r : Int) ≤ 60) (z : Int) (y : Int) (hy : IntKind.u64.wrap (one * (top - p + 1 - (mn - p + 1))) = y) (y0 : 0 ≤ y) (hry : (r : Int) + y < 18446744073709551616)  (HPut : Hid (∀ w', Calls Tryz.prog 85 #[.int .i64 f, .int .i64 sign, .int .u64 ((r : Int) + y)] w' fun x w'' => x = .returned (.int .u64 z) ∧ w' = w'')) (hov : (nb r : Int) + (top - p + 1) - 1 ≤ mx) (hh : (half : Int) ≤ 0) :
  Calls Tryz.prog 64 #[.int .i64 f, .int .i64 mode, .agg #[.int .i64 sign, v, .int .i64 e, .bool rest]] w fun x w' => x = .returned (.agg #[.int .u64 z, .int .i64 0]) ∧ Gb w w' := by
 have u1 : IntKind.i64.wrap ((nb M : Int) + e) = te := by rw [ht]; rw [IntKind.wrap_i64]; omega
 have u2 : IntKind.i64.wrap (te - 1) = top := by rw [htop]; rw [IntKind.wrap_i64]; omega
 have tb : -1000001 ≤ top ∧ top ≤ 5000001 := by omega
 clear ht htop
 go_enter Tryz.func64, Tryz.ntmps64
 go_wp2
 go_region_held3 (fun w' => w'.cell? ⟨w.heap.size, 0, none⟩ = some (.int .i64 sign) ∧ w'.cell? ⟨w.heap.size, 1, none⟩ = some (v) ∧ w'.cell? ⟨w.heap.size, 2, none⟩ = some (.int .i64 e) ∧ w'.cell? ⟨w.heap.size, 3, none⟩ = some (.bool rest) ∧ w'.cell? ⟨w.heap.size + 1, 0, none⟩ = some (.int .u64 0) ∧ w'.frozen? ⟨w.heap.size + 1, 0, none⟩ = false ∧ w'.cell? ⟨w.heap.size + 1, 1, none⟩ = some (.int .i64 0) ∧ w'.frozen? ⟨w.heap.size + 1, 1, none⟩ = false)
  ((go_split_ands; (repeat' apply And.intro) <;> (repeat' (first | (with_reducible assumption) | (with_reducible refine has_of (by with_reducible assumption)) | (with_reducible refine Gr.old (by with_reducible assumption) ?_) | (with_reducible refine Gb.old (by with_reducible assumption) ?_) | (with_reducible refine cell_swap _ ?_ (by with_reducible assumption); omega) | (with_reducible refine cell_setSame ?_) | (with_reducible refine has_old (by with_reducible assumption) ?_) | (with_reducible refine has_set ?_) | (with_reducible refine cell_setOff ?_ ?_; omega) | (with_reducible refine cell_setNew ?_ ?_; (dsimp only; omega)) | (simp [go_sem]; done) | (simp [go_sem]; rfl) | (with_reducible refine cell_alloc _ ?_) | (with_reducible refine cell_drew ?_) | (with_reducible refine has_alloc _ ?_) | (with_reducible refine fz_old (by with_reducible assumption) ?_) | (with_reducible refine Gb.fzc (by with_reducible assumption) (by first | (with_reducible assumption) | (with_reducible exact cell_drew (by with_reducible assumption))) ?_) | (with_reducible refine Gb.fz (by with_reducible assumption) ?_ ?_) | go_size | (with_reducible refine fz_alloc ?_) | (with_reducible refine fz_set ?_) | (with_reducible refine fz_drew ?_)))))
  (first | (go_at_call 111; refine kw (RC.len HR.out 100000 _ M _ (by omega) (BigN.gb HB.out kg)) ?_))
 all_goals
  (try go_split_ands)
  go_wp2_with (first
   | (go_at_call 112; refine kw (RC.max HR.out _) ?_)
   | (go_at_call 114; refine kw (RC.min HR.out _) ?_)
   | (go_at_call 77; refine kw (RC.prec HR.out _) ?_)
   | (go_at_call 109; refine kw (RC.two HR.out _) ?_)
   | (go_at_call 115; refine (HCut.out _ kg).mono ?_; rintro x wc ⟨vL, rfl, hbL, hgc⟩; obtain ⟨cx0, cx1, cx2, cx3⟩ : KE4 wc w.heap.size 0 1 2 3 (.int .i64 sign) (v) (.int .i64 e) (.bool rest) := ⟨ks, ks, ks, ks⟩; obtain ⟨cr0, cz0, cr1, cz1⟩ : KF2 wc (w.heap.size + 1) 0 1 (.int .u64 0) (.int .i64 0) := ⟨ks, ks, ks, ks⟩)
   | (go_at_call 116; refine (RC.choose HR.out _ lo half _ (by first | (with_reducible assumption) | (refine BigN.gb (by with_reducible assumption) kg)) hhalf).mono ?_; rintro x wd ⟨vr, rfl, hbr, hgd⟩; (try rw [hr] at hbr); obtain ⟨dx0, dx1, dx2, dx3⟩ : KE4 wd w.heap.size 0 1 2 3 (.int .i64 sign) (v) (.int .i64 e) (.bool rest) := ⟨ks, ks, ks, ks⟩; obtain ⟨dr0, dz0, dr1, dz1⟩ : KF2 wd (w.heap.size + 1) 0 1 (.int .u64 0) (.int .i64 0) := ⟨ks, ks, ks, ks⟩)
   | (go_at_call 111; refine (RC.len HR.out 190000 _ r _ (by omega) (by first | (with_reducible assumption) | (refine BigN.gb (by with_reducible assumption) kg))).mono ?_; rintro x wk ⟨rfl, hw⟩; subst hw)
   | (go_at_call 117; refine (RC.word HR.out _ r _ (by first | (with_reducible assumption) | (refine BigN.gb (by with_reducible assumption) kg)) hr64).mono ?_; rintro x wk ⟨rfl, hw⟩; subst hw)
   | (go_at_call 85; refine kw (HPut.out _) ?_)
   | (go_at_call 113; refine (HOver.out _).mono ?_; rintro x wo ⟨rfl, hgo⟩; obtain ⟨ox0, ox1, ox2, ox3⟩ : KE4 wo w.heap.size 0 1 2 3 (.int .i64 sign) (v) (.int .i64 e) (.bool rest) := ⟨ks, ks, ks, ks⟩; obtain ⟨or0, oz0, or1, oz1⟩ : KF2 wo (w.heap.size + 1) 0 1 (.int .u64 0) (.int .i64 0) := ⟨ks, ks, ks, ks⟩))
  refine bodyPost_ret (v := .agg #[.int .u64 z, .int .i64 0]) (by simp [results, Tryz.results64, go_sem, dr0, dr1]) rfl ⟨rfl, ?_⟩
  exact kg


end Go.Proofs.YtkackkggpehpkaaGreatDoor
