import Derived.Test.YtnbbfeknbfohhaaGreatDoorA8
import Derived.Deep.RegionHeld3
import Derived.Test.YtnbbfeknbfohhaaGreatDoorA1
set_option linter.unusedVariables false
set_option linter.unusedSimpArgs false
set_option maxRecDepth 1000000
set_option maxHeartbeats 40000000
open Go.Value renaming int → J
open Go.IntKind renaming i64 → Z
namespace Go.Proofs.YtnbbfeknbfohhaaGreatDoor
open Go.RowKit
theorem BigN.set {K : Nat} {w : World} {b1 k1 c1 N : Nat} (h : BigN K w (.slice (some ⟨b1, 0, none⟩) k1 c1) N) (hN : 0 < N) {B : Nat} {s : Int} (hc : w.cell? ⟨B, 0, none⟩ = some (J Z s)) (o : Nat) (u : Value) (ho : o ≠ 0) :
  BigN K (w.setCell ⟨B, o, none⟩ u) (.slice (some ⟨b1, 0, none⟩) k1 c1) N ∧ (w.setCell ⟨B, o, none⟩ u).cell? ⟨B, 0, none⟩ = some (J Z s) := by
 obtain ⟨n, h1, hnm, hlt, b, cap, e, h3, h4, h5⟩ := h
 simp only [Value.slice.injEq, Option.some.injEq, Addr.mk.injEq, and_true] at e
 obtain ⟨rfl, rfl, rfl⟩ := e
 have hn : 0 < k1 := by
  rcases Nat.eq_zero_or_pos k1 with c | c
  ·have := hnm.iff.mp c; omega
  ·exact c
 have hne : B ≠ b1 := by
  intro e
  subst e
  have := h5 0 hn
  rw [hc] at this
  simp at this
 refine ⟨⟨k1, h1, hnm, hlt, b1, c1, rfl, h3, h4, fun j hj => cell_setNew (by simpa using hne) (h5 j hj)⟩, cell_setOff ho hc⟩
theorem BigN.set3 {K : Nat} {w : World} {b1 k1 c1 N : Nat} (h : BigN K w (.slice (some ⟨b1, 0, none⟩) k1 c1) N) (hN : 0 < N) {B : Nat} {s : Int} (hc : w.cell? ⟨B, 0, none⟩ = some (J Z s)) (u1 u2 u3 : Value) :
  BigN K (((w.setCell ⟨B, 1, none⟩ u1).setCell ⟨B, 2, none⟩ u2).setCell ⟨B, 3, none⟩ u3) (.slice (some ⟨b1, 0, none⟩) k1 c1) N := by
 obtain ⟨a1, a2⟩ := h.set hN hc 1 u1 (by decide)
 obtain ⟨a3, a4⟩ := a1.set hN a2 2 u2 (by decide)
 exact (a3.set hN a4 3 u3 (by decide)).1
theorem l2Round_A {v : Value} {M : Nat} {w : World} {f p mn mx one mode sign e : Int} {rest : Bool} (HB : Hid (BigN 100000 w v M)) (HR : Hid (RC f p mn mx one mode sign w)) (b1 : 24 ≤ p) (b2 : p ≤ 53) (b3 : -1022 ≤ mn) (b4 : mn ≤ -126) (b5 : 127 ≤ mx) (b6 : mx ≤ 1023) (b7 : 0 ≤ one) (b8 : one ≤ 4503599627370496) (n1 : (nb M : Int) ≤ 4000000) (e0 : -1000000 ≤ e) (e1 : e ≤ 1000000) (te top : Int) (ht : (nb M : Int) + e = te) (htop : te - 1 = top) (c0 : top < mn - p - 2) (lo half : Nat) (HCut : Hid (∀ v1 w', BigN 100000 w' v1 1 → CT 155 #[.agg #[J Z sign, v1, J Z (mn - p - 2), .bool true], J Z (mn - p + 1)] w' fun x w'' => ∃ vL, x = .returned (.tuple #[vL, J Z (half : Int)]) ∧ BigN 180000 w'' vL lo ∧ Gb w' w'')) (hhalf : half ≤ 3) (r : Nat) (hr : chosen mode sign lo half = r) (hr64 : r < 18446744073709551616) (hL : (nb r : Int) ≤ 60) (z : Int) (HPut : KW 151 #[J Z f, J Z sign, J .u64 r] (J .u64 z)) (hh : 0 < (half : Int)) (lo2 half2 : Nat) (q2 tp : Int) (hq2 : mn - p - 2 - p = tp) (hq2' : tp + 1 = q2) (HCut2 : Hid (∀ v1 w', BigN 100000 w' v1 1 → CT 155 #[.agg #[J Z sign, v1, J Z (mn - p - 2), .bool true], J Z q2] w' fun x w'' => ∃ vL, x = .returned (.tuple #[vL, J Z (half2 : Int)]) ∧ BigN 180000 w'' vL lo2 ∧ Gb w' w'')) (hhalf2 : half2 ≤ 3) (r2 : Nat) (hr2 : chosen mode sign lo2 half2 = r2) (hL2 : (nb r2 : Int) ≤ 4000000) (hty : (nb r2 : Int) + (mn - p - 2) - p < mn) :
  QB 65 #[J Z f, J Z mode, .agg #[J Z sign, v, J Z e, .bool rest]] w (.agg #[J .u64 z, J Z 24]) := by
 have u1 : IntKind.i64.wrap ((nb M : Int) + e) = te := by rw [ht]; rw [IntKind.wrap_i64]; omega
 have u2 : IntKind.i64.wrap (te - 1) = top := by rw [htop]; rw [IntKind.wrap_i64]; omega
 have tb : -1000001 ≤ top ∧ top ≤ 5000001 := by omega
 clear ht htop
 have u3 : IntKind.i64.wrap (mn - p - 2 - p) = tp := by rw [hq2]; rw [IntKind.wrap_i64]; omega
 have u4 : IntKind.i64.wrap (tp + 1) = q2 := by rw [hq2']; rw [IntKind.wrap_i64]; omega
 have HOne : Hid (∀ w', CT 150 #[J .u64 1] w' fun x w'' => ∃ b1 k1 c1, x = .returned (.slice (some ⟨b1, 0, none⟩) k1 c1) ∧ BigN 100000 w'' (.slice (some ⟨b1, 0, none⟩) k1 c1) 1 ∧ Gb w' w'') := fun w' => (l2Big_any 1 (by omega) w').mono (fun x w'' ⟨v', k, a1, a2, a3, a4⟩ => by obtain ⟨b, c, rfl, _⟩ := Big.shape a2; exact ⟨b, k, c, a1, ⟨k, by omega, a2⟩, a4⟩)
 clear hq2 hq2'
 go_enter Tryz.func65, Tryz.ntmps65
 go_wp2
 go_region_held3 (fun w' => w'.cell? ⟨w.heap.size, 0, none⟩ = some (J Z sign) ∧ w'.cell? ⟨w.heap.size, 1, none⟩ = some (v) ∧ w'.cell? ⟨w.heap.size, 2, none⟩ = some (J Z e) ∧ w'.cell? ⟨w.heap.size, 3, none⟩ = some (.bool rest) ∧ w'.cell? ⟨w.heap.size + 1, 0, none⟩ = some (J .u64 0) ∧ w'.frozen? ⟨w.heap.size + 1, 0, none⟩ = false ∧ w'.cell? ⟨w.heap.size + 1, 1, none⟩ = some (J Z 0) ∧ w'.frozen? ⟨w.heap.size + 1, 1, none⟩ = false ∧ w'.frozen? ⟨w.heap.size, 1, none⟩ = false ∧ w'.frozen? ⟨w.heap.size, 2, none⟩ = false ∧ w'.frozen? ⟨w.heap.size, 3, none⟩ = false)
  ((go_split_ands; (repeat' apply And.intro) <;> (repeat' (first | (with_reducible assumption) | (with_reducible refine has_of (by with_reducible assumption)) | (with_reducible refine Gr.old (by with_reducible assumption) ?_) | (with_reducible refine Gb.old (by with_reducible assumption) ?_) | (with_reducible refine cell_swap _ ?_ (by with_reducible assumption); omega) | (with_reducible refine cell_setSame ?_) | (with_reducible refine has_old (by with_reducible assumption) ?_) | (with_reducible refine has_set ?_) | (with_reducible refine cell_setOff ?_ ?_; omega) | (with_reducible refine cell_setNew ?_ ?_; (dsimp only; omega)) | (simp [go_sem]; done) | (simp [go_sem]; rfl) | (with_reducible refine cell_alloc _ ?_) | (with_reducible refine cell_drew ?_) | (with_reducible refine has_alloc _ ?_) | (with_reducible refine fz_old (by with_reducible assumption) ?_) | (with_reducible refine Gb.fzc (by with_reducible assumption) (by first | (with_reducible assumption) | (with_reducible exact cell_drew (by with_reducible assumption))) ?_) | (with_reducible refine Gb.fz (by with_reducible assumption) ?_ ?_) | go_size | (with_reducible refine fz_alloc ?_) | (with_reducible refine fz_set ?_) | (with_reducible refine fz_drew ?_)))))
  (first | (go_at_call 152; refine kw (RC.len HR.out 100000 _ M _ (by omega) (BigN.gb HB.out kg)) ?_))
 all_goals
  (try go_split_ands)
  go_wp2_with (first
   | (go_at_call 153; refine kw (RC.max HR.out _) ?_)
   | (go_at_call 116; refine kw (RC.min HR.out _) ?_)
   | (go_at_call 115; refine kw (RC.prec HR.out _) ?_)
   | (go_at_call 114; refine kw (RC.two HR.out _) ?_)
   | (go_at_call 150; refine (HOne.out _).mono ?_; rintro x wb ⟨b1, k1, c1, rfl, hb1, hgb1⟩; obtain ⟨bx0, bx1, bx2, bx3⟩ : KE4 wb w.heap.size 0 1 2 3 (J Z sign) (v) (J Z e) (.bool rest) := ⟨kb, kb, kb, kb⟩; obtain ⟨br0, bz0, br1, bz1⟩ : KF2 wb (w.heap.size + 1) 0 1 (J .u64 0) (J Z 0) := ⟨kb, kb, kb, kb⟩; have bq1 : wb.frozen? ⟨w.heap.size, 1, none⟩ = false := kb; have bq2 : wb.frozen? ⟨w.heap.size, 2, none⟩ = false := kb; have bq3 : wb.frozen? ⟨w.heap.size, 3, none⟩ = false := kb; have hbsz := cell_size br0; have hset := BigN.set3 hb1 (by omega) bx0)
   | (go_at_call 155; refine (HCut.out _ _ (by first | (with_reducible assumption) | (exact hset _ _ _) | (refine BigN.gb (hset _ _ _) kg) | (refine BigN.gb (by with_reducible assumption) kg))).mono ?_; rintro x wc ⟨vL, rfl, hbL, hgc⟩; obtain ⟨cx0, cx1, cx2, cx3⟩ : KE4 wc w.heap.size 0 1 2 3 (J Z sign) ((.slice (some ⟨b1, 0, none⟩) k1 c1)) (J Z (mn - p - 2)) (.bool true) := ⟨kb, kb, kb, kb⟩; obtain ⟨cr0, cz0, cr1, cz1⟩ : KF2 wc (w.heap.size + 1) 0 1 (J .u64 0) (J Z 0) := ⟨kb, kb, kb, kb⟩)
   | (go_at_call 156; refine (RC.choose HR.out _ lo half _ (by first | (with_reducible assumption) | (exact hset _ _ _) | (refine BigN.gb (hset _ _ _) kg) | (refine BigN.gb (by with_reducible assumption) kg)) hhalf).mono ?_; rintro x wd ⟨vr, rfl, hbr, hgd⟩; (try rw [hr] at hbr); obtain ⟨dx0, dx1, dx2, dx3⟩ : KE4 wd w.heap.size 0 1 2 3 (J Z sign) ((.slice (some ⟨b1, 0, none⟩) k1 c1)) (J Z (mn - p - 2)) (.bool true) := ⟨kb, kb, kb, kb⟩; obtain ⟨dr0, dz0, dr1, dz1⟩ : KF2 wd (w.heap.size + 1) 0 1 (J .u64 0) (J Z 0) := ⟨kb, kb, kb, kb⟩)
   | (go_at_call 152; refine (RC.len HR.out 190000 _ r _ (by omega) (by first | (with_reducible assumption) | (exact hset _ _ _) | (refine BigN.gb (hset _ _ _) kg) | (refine BigN.gb (by with_reducible assumption) kg))).mono ?_; rintro x wk ⟨rfl, hw⟩; subst hw)
   | (go_at_call 157; refine (RC.word HR.out _ r _ (by first | (with_reducible assumption) | (exact hset _ _ _) | (refine BigN.gb (hset _ _ _) kg) | (refine BigN.gb (by with_reducible assumption) kg)) hr64).mono ?_; rintro x wk ⟨rfl, hw⟩; subst hw)
   | (go_at_call 151; refine kw (HPut.out _) ?_)
   | (go_at_call 154; refine (HOver.out _).mono ?_; rintro x wo ⟨rfl, hgo⟩; obtain ⟨ox0, ox1, ox2, ox3⟩ : KE4 wo w.heap.size 0 1 2 3 (J Z sign) ((.slice (some ⟨b1, 0, none⟩) k1 c1)) (J Z (mn - p - 2)) (.bool true) := ⟨kb, kb, kb, kb⟩; obtain ⟨or0, oz0, or1, oz1⟩ : KF2 wo (w.heap.size + 1) 0 1 (J .u64 0) (J Z 0) := ⟨kb, kb, kb, kb⟩))
  go_region_held3 (fun w' => w'.cell? ⟨w.heap.size, 0, none⟩ = some (J Z sign) ∧ w'.cell? ⟨w.heap.size, 1, none⟩ = some ((.slice (some ⟨b1, 0, none⟩) k1 c1)) ∧ w'.cell? ⟨w.heap.size, 2, none⟩ = some (J Z (mn - p - 2)) ∧ w'.cell? ⟨w.heap.size, 3, none⟩ = some (.bool true) ∧ w'.cell? ⟨w.heap.size + 1, 0, none⟩ = some (J .u64 0) ∧ w'.frozen? ⟨w.heap.size + 1, 0, none⟩ = false ∧ w'.cell? ⟨w.heap.size + 1, 1, none⟩ = some (J Z 0) ∧ w'.frozen? ⟨w.heap.size + 1, 1, none⟩ = false)
   ((go_split_ands; (repeat' apply And.intro) <;> (repeat' (first | (with_reducible assumption) | (with_reducible refine has_of (by with_reducible assumption)) | (with_reducible refine Gr.old (by with_reducible assumption) ?_) | (with_reducible refine Gb.old (by with_reducible assumption) ?_) | (with_reducible refine cell_swap _ ?_ (by with_reducible assumption); omega) | (with_reducible refine cell_setSame ?_) | (with_reducible refine has_old (by with_reducible assumption) ?_) | (with_reducible refine has_set ?_) | (with_reducible refine cell_setOff ?_ ?_; omega) | (with_reducible refine cell_setNew ?_ ?_; (dsimp only; omega)) | (simp [go_sem]; done) | (simp [go_sem]; rfl) | (with_reducible refine cell_alloc _ ?_) | (with_reducible refine cell_drew ?_) | (with_reducible refine has_alloc _ ?_) | (with_reducible refine fz_old (by with_reducible assumption) ?_) | (with_reducible refine Gb.fzc (by with_reducible assumption) (by first | (with_reducible assumption) | (with_reducible exact cell_drew (by with_reducible assumption))) ?_) | (with_reducible refine Gb.fz (by with_reducible assumption) ?_ ?_) | go_size | (with_reducible refine fz_alloc ?_) | (with_reducible refine fz_set ?_) | (with_reducible refine fz_drew ?_)))))
   (first
    | (go_at_call 115; refine kw (RC.prec HR.out _) ?_)
    | (go_at_call 155; refine (HCut2.out _ _ (by first | (with_reducible assumption) | (exact hset _ _ _) | (refine BigN.gb (hset _ _ _) kg) | (refine BigN.gb (by with_reducible assumption) kg))).mono ?_; rintro x we ⟨vL2, rfl, hbL2, hge⟩; obtain ⟨eex0, eex1, eex2, eex3⟩ : KE4 we w.heap.size 0 1 2 3 (J Z sign) ((.slice (some ⟨b1, 0, none⟩) k1 c1)) (J Z (mn - p - 2)) (.bool true) := ⟨kb, kb, kb, kb⟩; obtain ⟨eer0, eez0, eer1, eez1⟩ : KF2 we (w.heap.size + 1) 0 1 (J .u64 0) (J Z 0) := ⟨kb, kb, kb, kb⟩))
  all_goals
   (try go_split_ands)
   go_wp2_with (first
    | (go_at_call 153; refine kw (RC.max HR.out _) ?_)
    | (go_at_call 116; refine kw (RC.min HR.out _) ?_)
    | (go_at_call 115; refine kw (RC.prec HR.out _) ?_)
    | (go_at_call 114; refine kw (RC.two HR.out _) ?_)
    | (go_at_call 150; refine (HOne.out _).mono ?_; rintro x wb ⟨b1, k1, c1, rfl, hb1, hgb1⟩; obtain ⟨bx0, bx1, bx2, bx3⟩ : KE4 wb w.heap.size 0 1 2 3 (J Z sign) (v) (J Z e) (.bool rest) := ⟨kb, kb, kb, kb⟩; obtain ⟨br0, bz0, br1, bz1⟩ : KF2 wb (w.heap.size + 1) 0 1 (J .u64 0) (J Z 0) := ⟨kb, kb, kb, kb⟩)
    | (go_at_call 156; refine (RC.choose HR.out _ lo2 half2 _ (by first | (with_reducible assumption) | (exact hset _ _ _) | (refine BigN.gb (hset _ _ _) kg) | (refine BigN.gb (by with_reducible assumption) kg)) hhalf2).mono ?_; rintro x wf ⟨vr2, rfl, hbr2, hgf⟩; (try rw [hr2] at hbr2); obtain ⟨fx0, fx1, fx2, fx3⟩ : KE4 wf w.heap.size 0 1 2 3 (J Z sign) ((.slice (some ⟨b1, 0, none⟩) k1 c1)) (J Z (mn - p - 2)) (.bool true) := ⟨kb, kb, kb, kb⟩; obtain ⟨fr0, fz0, fr1, fz1⟩ : KF2 wf (w.heap.size + 1) 0 1 (J .u64 0) (J Z 0) := ⟨kb, kb, kb, kb⟩)
    | (go_at_call 152; refine (RC.len HR.out 190000 _ r2 _ (by omega) (by first | (with_reducible assumption) | (exact hset _ _ _) | (refine BigN.gb (hset _ _ _) kg) | (refine BigN.gb (by with_reducible assumption) kg))).mono ?_; rintro x wk ⟨rfl, hw⟩; subst hw)
    | (go_at_call 157; refine (RC.word HR.out _ r _ (by first | (with_reducible assumption) | (exact hset _ _ _) | (refine BigN.gb (hset _ _ _) kg) | (refine BigN.gb (by with_reducible assumption) kg)) hr64).mono ?_; rintro x wk ⟨rfl, hw⟩; subst hw)
    | (go_at_call 151; refine kw (HPut.out _) ?_)
    | (go_at_call 154; refine (HOver.out _).mono ?_; rintro x wo ⟨rfl, hgo⟩; obtain ⟨ox0, ox1, ox2, ox3⟩ : KE4 wo w.heap.size 0 1 2 3 (J Z sign) ((.slice (some ⟨b1, 0, none⟩) k1 c1)) (J Z (mn - p - 2)) (.bool true) := ⟨kb, kb, kb, kb⟩; obtain ⟨or0, oz0, or1, oz1⟩ : KF2 wo (w.heap.size + 1) 0 1 (J .u64 0) (J Z 0) := ⟨kb, kb, kb, kb⟩))
   refine bodyPost_ret (v := .agg #[J .u64 z, J Z 24]) (by simp [results, Tryz.results65, go_sem, fr0, fr1]) rfl ⟨rfl, ?_⟩
   exact kg
theorem nb_of_le {r P : Nat} (h : r ≤ 2 ^ P) : nb r ≤ P + 1 := nb_le (by have := pow2_mono (show P ≤ P + 1 by omega); rw [Nat.pow_succ] at *; have := Nat.pow_pos (n := P) (show 0 < 2 by decide); omega)
theorem nb_of_lt {r P : Nat} (h : r < 2 ^ P) : nb r ≤ P := nb_le h
theorem l2Round_any {f p mx one inf sg nan : Int} (h : IsFmt f p mx one inf sg nan) {v : Value} {n M : Nat} {w : World} (hB : Big w v n M) (hn : n ≤ 100000) (hM : 0 < M) (hnb : nb M ≤ 3200000)
  (mode sign e : Int) (rest : Bool) (m0 : 0 ≤ mode) (m1 : mode ≤ 4) (hs : sign = 0 ∨ sign = 1) (e0 : -900000 ≤ e) (e1 : e ≤ 900000) (hst : rest = true → p + 2 ≤ nb M) :
  CT 65 #[J Z f, J Z mode, .agg #[J Z sign, v, J Z e, .bool rest]] w fun x w' => ∃ z fl, RoundIs p (1 - mx) mx one inf mode sign M e rest z fl ∧ 0 ≤ z ∧ z < sg ∧ x = .returned (.agg #[J .u64 (sw sign sg z), J Z fl]) ∧ Gb w w' := by
 obtain ⟨b1, b2, b3, b4, b5, b6, b7, b8, b9, b10, b11, b12⟩ := h.bounds
 obtain ⟨mn, hmn⟩ : ∃ mn, 1 - mx = mn := ⟨_, rfl⟩
 have HR : Hid (RC f p mn mx one mode sign w) := rc_of h hmn mode sign m0 m1 hs w
 have HB : Hid (BigN 100000 w v M) := ⟨n, hn, hB⟩
 have hmnb : -1022 ≤ mn ∧ mn ≤ -126 := by omega
 obtain ⟨P, hP, hP63, hone⟩ := h.pow
 have hone' : one = ((2 ^ P : Nat) : Int) := by rw [hone]; push_cast; rfl
 have hinf : inf = one * (2 * mx + 1) := by rcases h with ⟨rfl, rfl, rfl, rfl, rfl, rfl, rfl⟩ | ⟨rfl, rfl, rfl, rfl, rfl, rfl, rfl⟩ <;> decide
 have hov : 0 ≤ ovMag inf mode sign ∧ ovMag inf mode sign < sg := by unfold ovMag; split <;> omega
 have hP2 : 2 ^ P ≤ 4503599627370496 := by omega
 have hsucc : 2 ^ (P + 1) = 2 * 2 ^ P := by rw [Nat.pow_succ]; omega
 have HOver : KR 154 #[J Z f, J Z mode, J Z sign] (.agg #[J .u64 (sw sign sg (ovMag inf mode sign)), J Z 20]) := fun w' => l2Over_any h mode sign _ m0 m1 (by
  unfold sw
  rcases hs with rfl | rfl
  ·exact .inl ⟨rfl, by simp⟩
  ·exact .inr ⟨rfl, by simp⟩) w'
 have HPut : ∀ z : Int, 0 ≤ z → z < sg → KW 151 #[J Z f, J Z sign, J .u64 z] (J .u64 (sw sign sg z)) := fun z z0 z1 w' => l2Put_any h sign z _ (by
  unfold sw
  rcases hs with rfl | rfl
  ·exact .inl ⟨rfl, by simp⟩
  ·exact .inr ⟨rfl, by simp⟩) z0 z1 w'
 obtain ⟨top, htop⟩ : ∃ top : Int, top = nb M + e - 1 := ⟨_, rfl⟩
 have hpos := nb_pos M hM
 rw [hmn]
 have HCut : ∀ q : Int, -1000000 ≤ q → q ≤ 1000000 → Hid (∀ w', Gb w w' → CT 155 #[.agg #[J Z sign, v, J Z e, .bool rest], J Z q] w' fun x w'' => ∃ vL, x = .returned (.tuple #[vL, J Z (cutHalf M e q rest : Int)]) ∧ BigN 180000 w'' vL (cutLo M e q) ∧ Gb w' w'') := fun q q0 q1 w' hg =>
  (l2Cut_any (hB.gb hg) hn sign e q rest (by omega) (by omega) q0 q1).mono (fun x w'' ⟨vL, k, a1, a2, a3, a4⟩ => ⟨vL, a1, ⟨k, by omega, a2⟩, a4⟩)
 by_cases ho : mx < top
 ·refine (l2Round_O HB HR b1 b2 hmnb.1 hmnb.2 b3 b4 (by omega) b6 (by omega) (by omega) (by omega) (nb M + e) top rfl (by omega) _ HOver ho).mono ?_
  rintro x w' ⟨rfl, hg⟩
  by_cases hc : top < mn
  ·exact ⟨_, _, ⟨top, mn, _, _, _, htop, .inl ⟨hc, rfl⟩, rfl, rfl, rfl, .inl ⟨ho, rfl, rfl⟩⟩, hov.1, hov.2, rfl, hg⟩
  ·exact ⟨_, _, ⟨top, top, _, _, _, htop, .inr ⟨by omega, rfl⟩, rfl, rfl, rfl, .inl ⟨ho, rfl, rfl⟩⟩, hov.1, hov.2, rfl, hg⟩
 by_cases hlow : top < mn - p - 2
 ·-- far below
  have hfar := cut_far M e (mn - p + 1) rest hM (by omega)
  have hcutA : ∀ q : Int, -1000000 ≤ q → q ≤ 1000000 → Hid (∀ v1 w', BigN 100000 w' v1 1 → CT 155 #[.agg #[J Z sign, v1, J Z (mn - p - 2), .bool true], J Z q] w' fun x w'' => ∃ vL, x = .returned (.tuple #[vL, J Z (cutHalf 1 (mn - p - 2) q true : Int)]) ∧ BigN 180000 w'' vL (cutLo 1 (mn - p - 2) q) ∧ Gb w' w'') := fun q q0 q1 v1 w' ⟨k1, hk1, hb1⟩ =>
   (l2Cut_any hb1 hk1 sign (mn - p - 2) q true (by omega) (by omega) q0 q1).mono (fun x w'' ⟨vL, k, a1, a2, a3, a4⟩ => ⟨vL, a1, ⟨k, by omega, a2⟩, a4⟩)
  have h1 : nb 1 = 1 := by decide
  have hfar1 := cut_far 1 (mn - p - 2) (mn - p + 1) true (by decide) (by rw [h1]; omega)
  have hr1 := chosen_le mode sign 0 1
  have hlo2 := cutLo_lt 1 (mn - p - 2) (mn - p - 2 - p + 1) p.toNat (by rw [h1]; omega)
  have hr2 := chosen_le mode sign (cutLo 1 (mn - p - 2) (mn - p - 2 - p + 1)) (cutHalf 1 (mn - p - 2) (mn - p - 2 - p + 1) true)
  have hnb2 := nb_of_le (r := chosen mode sign (cutLo 1 (mn - p - 2) (mn - p - 2 - p + 1)) (cutHalf 1 (mn - p - 2) (mn - p - 2 - p + 1) true)) (P := p.toNat) (by omega)
  have hnb1 := nb_of_le (r := chosen mode sign 0 1) (P := 0) (by omega)
  have HP' := HPut (chosen mode sign 0 1 : Nat) (by omega) (by omega)
  have hC1 := hcutA (mn - p + 1) (by omega) (by omega)
  rw [hfar1.1, hfar1.2] at hC1
  refine (l2Round_A HB HR b1 b2 hmnb.1 hmnb.2 b3 b4 (by omega) b6 (by omega) (by omega) (by omega) (nb M + e) top rfl (by omega) hlow 0 1 hC1 (by omega) (chosen mode sign 0 1) rfl (by omega) (by omega) _ HP' (by omega)
   _ _ (mn - p - 2 - p + 1) (mn - p - 2 - p) rfl rfl (hcutA (mn - p - 2 - p + 1) (by omega) (by omega)) (cutHalf_le _ _ _ _) _ rfl (by omega) (by omega)).mono ?_
  rintro x w' ⟨rfl, hg⟩
  refine ⟨_, _, ⟨top, mn, _, _, _, htop, .inl ⟨by omega, rfl⟩, rfl, rfl, rfl, .inr (.inr ⟨by omega, ?_, ?_, .inr (.inl ⟨?_, .inl (by omega), rfl⟩)⟩)⟩, ?_, ?_, rfl, hg⟩
  ·rw [hfar.1, hfar.2]; simp; omega
  ·rw [hfar.1, hfar.2]; simp
  ·rw [hfar.2]; decide
  ·omega
  ·omega
 ·by_cases hS : top < mn
  ·-- below 2^mn
   have hlo := cutLo_lt M e (mn - p + 1) P (by omega)
   have hrl := chosen_le mode sign (cutLo M e (mn - p + 1)) (cutHalf M e (mn - p + 1) rest)
   obtain ⟨r, hr⟩ : ∃ r, chosen mode sign (cutLo M e (mn - p + 1)) (cutHalf M e (mn - p + 1) rest) = r := ⟨_, rfl⟩
   obtain ⟨r2, hr2⟩ : ∃ r2, chosen mode sign (cutLo M e (top - p + 1)) (cutHalf M e (top - p + 1) rest) = r2 := ⟨_, rfl⟩
   rw [hr] at hrl
   have hrP : r ≤ 2 ^ P := by omega
   have hnbr := nb_of_le hrP
   have hlo2 := cutLo_lt M e (top - p + 1) (P + 1) (by omega)
   have hrl2 := chosen_le mode sign (cutLo M e (top - p + 1)) (cutHalf M e (top - p + 1) rest)
   rw [hr2] at hrl2
   have hr2P : r2 ≤ 2 ^ (P + 1) := by omega
   have hnbr2 := nb_of_le hr2P
   have HP' := HPut (r : Int) (by omega) (by omega)
   have hinf2 : (r : Int) + one * (mn - mn) < inf := by rw [Int.sub_self, Int.mul_zero]; omega
   have hz : ((r : Nat) : Int) = (r : Int) + one * (mn - mn) := by rw [Int.sub_self, Int.mul_zero]; omega
   rcases Nat.eq_zero_or_pos (cutHalf M e (mn - p + 1) rest) with c | c
   ·refine (l2Round_S0 HB HR b1 b2 hmnb.1 hmnb.2 b3 b4 (by omega) b6 (by omega) (by omega) (by omega) (nb M + e) top rfl (by omega) (by omega) hS _ _ (HCut (mn - p + 1) (by omega) (by omega)) (cutHalf_le _ _ _ _) r hr (by omega) _ HP' (by omega) (by omega)).mono ?_
    rintro x w' ⟨rfl, hg⟩
    exact ⟨_, _, ⟨top, mn, r, r2, _, htop, .inl ⟨hS, rfl⟩, rfl, hr.symm, hr2.symm, .inr (.inr ⟨by omega, hinf2, hz, .inl ⟨c, rfl⟩⟩)⟩, by omega, by omega, rfl, hg⟩
   ·by_cases hty : (nb r2 : Int) + top - p < mn
    ·refine (l2Round_S1 HB HR b1 b2 hmnb.1 hmnb.2 b3 b4 (by omega) b6 (by omega) (by omega) (by omega) (nb M + e) top rfl (by omega) (by omega) hS _ _ (HCut (mn - p + 1) (by omega) (by omega)) (cutHalf_le _ _ _ _) r hr (by omega) _ HP' (by omega) (by omega) _ _ (top - p + 1) (top - p) rfl rfl (HCut (top - p + 1) (by omega) (by omega)) (cutHalf_le _ _ _ _) r2 hr2 (by omega) hty).mono ?_
     rintro x w' ⟨rfl, hg⟩
     refine ⟨_, _, ⟨top, mn, r, r2, _, htop, .inl ⟨hS, rfl⟩, rfl, hr.symm, hr2.symm, .inr (.inr ⟨by omega, hinf2, hz, .inr (.inl ⟨c, ?_, rfl⟩)⟩)⟩, by omega, by omega, rfl, hg⟩
     by_cases ht1 : top = mn - 1
     ·refine .inr ⟨ht1, ?_⟩
      have : r2 < 2 ^ (P + 1) := by
       rcases Nat.lt_or_ge r2 (2 ^ (P + 1)) with k | k
       ·exact k
       ·have := nb_gt k; omega
      omega
     ·exact .inl (by omega)
    ·refine (l2Round_S2 HB HR b1 b2 hmnb.1 hmnb.2 b3 b4 (by omega) b6 (by omega) (by omega) (by omega) (nb M + e) top rfl (by omega) (by omega) hS _ _ (HCut (mn - p + 1) (by omega) (by omega)) (cutHalf_le _ _ _ _) r hr (by omega) _ HP' (by omega) (by omega) _ _ (top - p + 1) (top - p) rfl rfl (HCut (top - p + 1) (by omega) (by omega)) (cutHalf_le _ _ _ _) r2 hr2 (by omega) (by omega)).mono ?_
     rintro x w' ⟨rfl, hg⟩
     refine ⟨_, _, ⟨top, mn, r, r2, _, htop, .inl ⟨hS, rfl⟩, rfl, hr.symm, hr2.symm, .inr (.inr ⟨by omega, hinf2, hz, .inr (.inr ⟨c, .inr ⟨by omega, ?_⟩, rfl⟩)⟩)⟩, by omega, by omega, rfl, hg⟩
     have : 2 ^ (P + 1) ≤ r2 := by
      rcases Nat.lt_or_ge r2 (2 ^ (P + 1)) with k | k
      ·have := nb_of_lt k; omega
      ·exact k
     omega
  ·-- from 2^mn on
   have hlo := cutLo_lt M e (top - p + 1) (P + 1) (by omega)
   have hge := cutLo_ge M e (top - p + 1) P hM (by omega)
   have hrl := chosen_le mode sign (cutLo M e (top - p + 1)) (cutHalf M e (top - p + 1) rest)
   obtain ⟨r, hr⟩ : ∃ r, chosen mode sign (cutLo M e (top - p + 1)) (cutHalf M e (top - p + 1) rest) = r := ⟨_, rfl⟩
   rw [hr] at hrl
   have hnbr := nb_of_le (r := r) (P := P + 1) (by omega)
   have hnbl := nb_gt (N := r) (k := P) (by omega)
   obtain ⟨Y, hY⟩ : ∃ Y, one * (top - mn) = Y := ⟨_, rfl⟩
   have hYb : 0 ≤ Y ∧ Y ≤ one * (mx - mn) := by
    rw [← hY]
    exact ⟨Int.mul_nonneg (by omega) (by omega), Int.mul_le_mul_of_nonneg_left (by omega) (by omega)⟩
   have hYm : one * (mx - mn) = inf - 2 * one := by rw [hinf, show mx - mn = (2 * mx + 1) - 2 by omega, Int.mul_sub, Int.mul_comm one 2]
   have hYs : top < mx → Y ≤ inf - 3 * one := by
    intro k
    have : Y ≤ one * (mx - 1 - mn) := by rw [← hY]; exact Int.mul_le_mul_of_nonneg_left (by omega) (by omega)
    rw [show mx - 1 - mn = (2 * mx + 1) - 3 by omega, Int.mul_sub, ← hinf, Int.mul_comm one 3] at this
    omega
   by_cases hovf : mx < (nb r : Int) + (top - p + 1) - 1
   ·have hrr : r = 2 ^ (P + 1) ∧ top = mx := by
     have hb : P + 1 < nb r := by omega
     have : 2 ^ (P + 1) ≤ r := by
      rcases Nat.lt_or_ge r (2 ^ (P + 1)) with k | k
      ·have := nb_of_lt k; omega
      ·exact k
     omega
    refine (l2Round_TO HB HR b1 b2 hmnb.1 hmnb.2 b3 b4 (by omega) b6 (by omega) (by omega) (by omega) (nb M + e) top rfl (by omega) (by omega) (by omega) _ _ (HCut (top - p + 1) (by omega) (by omega)) (cutHalf_le _ _ _ _) r hr (by omega) (by omega) _ HOver hovf).mono ?_
    rintro x w' ⟨rfl, hg⟩
    refine ⟨_, _, ⟨top, top, r, r, _, htop, .inr ⟨by omega, rfl⟩, rfl, hr.symm, hr.symm, .inr (.inl ⟨by omega, ?_, rfl, rfl⟩)⟩, hov.1, hov.2, rfl, hg⟩
    rw [hY]
    have : Y = one * (mx - mn) := by rw [← hY, hrr.2]
    omega
   ·have hlt : (r : Int) + Y < inf := by
     rcases Nat.lt_or_ge r (2 ^ (P + 1)) with k | k
     ·omega
     ·have := nb_gt k
      have := hYs (by omega)
      omega
    have hz : (r : Int) + Y = (r : Int) + one * (top - mn) := by rw [hY]
    have hinf2 : (r : Int) + one * (top - mn) < inf := by rw [hY]; exact hlt
    by_cases hE : top = mn
    ·have hY0 : Y = 0 := by rw [← hY, hE, Int.sub_self, Int.mul_zero]
     have HP' := HPut (r : Int) (by omega) (by omega)
     have hz' : (r : Int) = (r : Int) + one * (top - mn) := by rw [hY]; omega
     rcases Nat.eq_zero_or_pos (cutHalf M e (top - p + 1) rest) with c | c
     ·refine (l2Round_TE0 HB HR b1 b2 hmnb.1 hmnb.2 b3 b4 (by omega) b6 (by omega) (by omega) (by omega) (nb M + e) top rfl (by omega) (by omega) (by omega) (by omega) _ _ (HCut (top - p + 1) (by omega) (by omega)) (cutHalf_le _ _ _ _) r hr (by omega) (by omega) _ HP' (by omega) (by omega)).mono ?_
      rintro x w' ⟨rfl, hg⟩
      exact ⟨_, _, ⟨top, top, r, r, _, htop, .inr ⟨by omega, rfl⟩, rfl, hr.symm, hr.symm, .inr (.inr ⟨by omega, hinf2, hz', .inl ⟨c, rfl⟩⟩)⟩, by omega, by omega, rfl, hg⟩
     ·refine (l2Round_TE1 HB HR b1 b2 hmnb.1 hmnb.2 b3 b4 (by omega) b6 (by omega) (by omega) (by omega) (nb M + e) top rfl (by omega) (top - p + 1) (top - p) rfl rfl (by omega) (by omega) (by omega) _ _ (HCut (top - p + 1) (by omega) (by omega)) (cutHalf_le _ _ _ _) r hr (by omega) (by omega) _ HP' (by omega) (by omega) _ _ (HCut (top - p + 1) (by omega) (by omega)) (cutHalf_le _ _ _ _) r hr (by omega) (by omega)).mono ?_
      rintro x w' ⟨rfl, hg⟩
      exact ⟨_, _, ⟨top, top, r, r, _, htop, .inr ⟨by omega, rfl⟩, rfl, hr.symm, hr.symm, .inr (.inr ⟨by omega, hinf2, hz', .inr (.inr ⟨c, .inl (by omega), rfl⟩)⟩)⟩, by omega, by omega, rfl, hg⟩
    ·have HP' := HPut ((r : Int) + Y) (by omega) (by omega)
     have hYw : IntKind.u64.wrap (one * (top - p + 1 - (mn - p + 1))) = Y := by
      rw [show top - p + 1 - (mn - p + 1) = top - mn by omega, hY, IntKind.wrap_u64]; omega
     rcases Nat.eq_zero_or_pos (cutHalf M e (top - p + 1) rest) with c | c
     ·refine (l2Round_T0 HB HR b1 b2 hmnb.1 hmnb.2 b3 b4 (by omega) b6 (by omega) (by omega) (by omega) (nb M + e) top rfl (by omega) (by omega) (by omega) _ _ (HCut (top - p + 1) (by omega) (by omega)) (cutHalf_le _ _ _ _) r hr (by omega) (by omega) _ Y hYw (by omega) (by omega) HP' (by omega) (by omega)).mono ?_
      rintro x w' ⟨rfl, hg⟩
      exact ⟨_, _, ⟨top, top, r, r, _, htop, .inr ⟨by omega, rfl⟩, rfl, hr.symm, hr.symm, .inr (.inr ⟨by omega, hinf2, hz, .inl ⟨c, rfl⟩⟩)⟩, by omega, by omega, rfl, hg⟩
     ·refine (l2Round_T1 HB HR b1 b2 hmnb.1 hmnb.2 b3 b4 (by omega) b6 (by omega) (by omega) (by omega) (nb M + e) top rfl (by omega) (top - p + 1) (top - p) rfl rfl (by omega) (by omega) (by omega) _ _ (HCut (top - p + 1) (by omega) (by omega)) (cutHalf_le _ _ _ _) r hr (by omega) (by omega) _ Y hYw (by omega) (by omega) HP' (by omega) (by omega) _ _ (HCut (top - p + 1) (by omega) (by omega)) (cutHalf_le _ _ _ _) r hr (by omega) (by omega)).mono ?_
      rintro x w' ⟨rfl, hg⟩
      exact ⟨_, _, ⟨top, top, r, r, _, htop, .inr ⟨by omega, rfl⟩, rfl, hr.symm, hr.symm, .inr (.inr ⟨by omega, hinf2, hz, .inr (.inr ⟨c, .inl (by omega), rfl⟩)⟩)⟩, by omega, by omega, rfl, hg⟩
end Go.Proofs.YtnbbfeknbfohhaaGreatDoor
