/- spec.Div; both sides. -/
import Derived.Test.YtkflpogmhailhaaDoorL4ZD
set_option linter.unusedVariables false
set_option linter.unusedSimpArgs false
namespace Go.Proofs.YtkflpogmhailhaaDoor
open Go.RowKit

theorem specDiv_ok {f p mx one inf sg nan : Int} (h : IsFmt f p mx one inf sg nan) (mode a b : Int) (hm : 0 ≤ mode ∧ mode ≤ 4) (a0 : 0 ≤ a) (a1 : a < 18446744073709551616) (b0 : 0 ≤ b) (b1 : b < 18446744073709551616) {x y : Opd} (hx : OpdIs p mx one inf sg nan a x) (hy : OpdIs p mx one inf sg nan b y) (w : World) :
    Calls Tryd.prog 13 #[.int .i64 f, .int .i64 mode, .int .u64 a, .int .u64 b] w fun e w' => ∃ Z fl, PackD p (1 - mx) mx one inf sg nan mode (divO p mode x y) Z fl ∧ e = .returned (.agg #[.int .u64 Z, .int .i64 fl]) ∧ Gb w w' := by
  obtain ⟨v1, v2, v3, v4, v5, v6⟩ := opd_vo h hx
  obtain ⟨u1, u2, u3, u4, u5, u6⟩ := opd_vo h hy
  have xc0 := v1.c0
  have xc4 := v1.c4
  have yc0 := u1.c0
  have yc4 := u1.c4
  have hb := h.bounds
  have hms := mulS_01 x.s y.s
  obtain ⟨hm1, hm2⟩ := mulS_mod x.s y.s v1.s01 u1.s01
  have sa0 : 0 ≤ x.s := by have := v1.s01; omega
  have sa1 : x.s ≤ 1 := by have := v1.s01; omega
  have sb0 : 0 ≤ y.s := by have := u1.s01; omega
  have sb1 : y.s ≤ 1 := by have := u1.s01; omega
  have fx : x.c = 1 → _ := opd_fin h hx
  have fy : y.c = 1 → _ := opd_fin h hy
  by_cases hfit : a < 2 * sg ∧ b < 2 * sg
  · obtain ⟨fa, fb'⟩ := hfit
    have HF : Hid (∀ w, Calls Tryd.prog 25 #[.int .i64 f, .int .i64 mode, .int .u64 a, .int .u64 b] w fun e w' => e = .returned (.bool true) ∧ w = w') := fun w => l3Fits_yes h mode a b hm.1 hm.2 a0 fa b0 fb' w
    have HUa := unp_det h a a0 fa hx
    have HUb := unp_det h b b0 fb' hy
    have HQ : ∀ (z : Opd) (t : Bool), t = decide (3 ≤ z.c) → Hid (∀ w, Calls Tryd.prog 28 #[.agg #[.int .i64 z.c, .int .i64 z.s, .int .i64 z.e, .int .u64 (((z.M : Nat) : Int))]] w fun e w' => e = .returned (.bool t) ∧ Gr w w') := fun z t ht w => l3Quiet_any _ _ _ _ t ht w
    have HNan : ∀ t : Bool, Hid (∀ w, Calls Tryd.prog 29 #[.int .i64 f, .bool t] w fun e w' => e = .returned (.agg #[.int .u64 nan, .int .i64 (if t then 1 else 0)]) ∧ Gr w w') := fun t w => l3Nan_any h t _ rfl w
    by_cases c1 : 3 ≤ x.c
    · rw [divO_nan p mode x y (by omega)]
      by_cases c2 : x.c = 4
      · refine (sDiv_nan1 f mode a b _ _ _ _ _ _ _ _ HF HUa HUb (HQ x true (by simp [c1])) (by simp [c2]) nan _ (HNan true) w).mono ?_
        rintro e w' ⟨rfl, hg⟩
        exact ⟨_, _, .inl (nan_pack _ true (by simp; omega) (by omega) (by omega)), rfl, hg⟩
      · refine (sDiv_nan2 f mode a b _ _ _ _ _ _ _ _ HF HUa HUb (HQ x true (by simp [c1])) (by simp [c2]) (decide (y.c = 4)) (bq _ _) nan _ (HNan _) w).mono ?_
        rintro e w' ⟨rfl, hg⟩
        exact ⟨_, _, .inl (nan_pack _ _ (by rw [decide_eq_decide]; omega) (by omega) (by omega)), rfl, hg⟩
    · by_cases c2 : 3 ≤ y.c
      · rw [divO_nan p mode x y (by omega)]
        refine (sDiv_nan3 f mode a b _ _ _ _ _ _ _ _ HF HUa HUb (HQ x false (by simp; omega)) (HQ y true (by simp [c2])) (by simp; omega) (decide (y.c = 4)) (bq _ _) nan _ (HNan _) w).mono ?_
        rintro e w' ⟨rfl, hg⟩
        exact ⟨_, _, .inl (nan_pack _ _ (by rw [decide_eq_decide]; omega) (by omega) (by omega)), rfl, hg⟩
      · have hQa := HQ x false (by simp; omega)
        have hQb := HQ y false (by simp; omega)
        unfold divO
        rw [if_neg (show ¬ 3 ≤ max x.c y.c by omega)]
        rcases (show x.c = 0 ∨ x.c = 1 ∨ x.c = 2 by omega) with cx | cx | cx <;> rcases (show y.c = 0 ∨ y.c = 1 ∨ y.c = 2 by omega) with cy | cy | cy
        · rw [if_pos (show x.c = y.c ∧ x.c ≠ 1 by omega)]
          refine (sDiv_00 f mode a b _ _ _ _ _ _ _ _ HF HUa HUb hQa hQb cx cy nan 1 (fun w => l2Bad_fmt h w) w).mono ?_
          rintro e w' ⟨rfl, hg⟩
          exact ⟨_, _, .inl (bad_nan rfl), rfl, hg⟩
        · rw [if_neg (show ¬ (x.c = y.c ∧ x.c ≠ 1) by omega), if_neg (show ¬ x.c = 2 by omega), if_neg (show ¬ (x.c = 1 ∧ y.c = 0) by omega), if_neg (show ¬ (x.c = 1 ∧ y.c = 1) by omega)]
          refine (sDiv_01 f mode a b _ _ _ _ _ _ _ _ HF HUa HUb hQa hQb cx cy _ sa0 sa1 sb0 sb1 hm1 hm2 (sw (mulS x.s y.s) sg 0) 0 (fun w => l3Zero_any h _ hms w) w).mono ?_
          rintro e w' ⟨rfl, hg⟩
          exact ⟨_, _, .inl (.inl ⟨rfl, rfl, rfl⟩), rfl, hg⟩
        · rw [if_neg (show ¬ (x.c = y.c ∧ x.c ≠ 1) by omega), if_neg (show ¬ x.c = 2 by omega), if_neg (show ¬ (x.c = 1 ∧ y.c = 0) by omega), if_neg (show ¬ (x.c = 1 ∧ y.c = 1) by omega)]
          refine (sDiv_02 f mode a b _ _ _ _ _ _ _ _ HF HUa HUb hQa hQb cx cy _ sa0 sa1 sb0 sb1 hm1 hm2 (sw (mulS x.s y.s) sg 0) 0 (fun w => l3Zero_any h _ hms w) w).mono ?_
          rintro e w' ⟨rfl, hg⟩
          exact ⟨_, _, .inl (.inl ⟨rfl, rfl, rfl⟩), rfl, hg⟩
        · rw [if_neg (show ¬ (x.c = y.c ∧ x.c ≠ 1) by omega), if_neg (show ¬ x.c = 2 by omega), if_pos ⟨cx, cy⟩]
          refine (sDiv_10 f mode a b _ _ _ _ _ _ _ _ HF HUa HUb hQa hQb cx cy _ sa0 sa1 sb0 sb1 hm1 hm2 inf (sw (mulS x.s y.s) sg inf) (fun w => l2Inf_any h w) (fun w => l2Put_any h _ _ _ ?_ (by omega) (by omega) w) w).mono ?_
          · rcases hms with c | c
            · exact .inl ⟨c, by rw [c]; simp [sw]⟩
            · exact .inr ⟨c, by rw [c]; simp [sw]⟩
          · rintro e w' ⟨rfl, hg⟩
            exact ⟨_, _, .inr ⟨rfl, rfl, rfl⟩, rfl, hg⟩
        · rw [if_neg (show ¬ (x.c = y.c ∧ x.c ≠ 1) by omega), if_neg (show ¬ x.c = 2 by omega), if_neg (show ¬ (x.c = 1 ∧ y.c = 0) by omega), if_pos ⟨cx, cy⟩]
          obtain ⟨Pn, hP, hP1, hP53, hA, hA2⟩ := fx cx
          obtain ⟨Pn', hP', _, _, hB, hB2⟩ := fy cy
          obtain rfl : Pn = Pn' := by omega
          have hB0 : 0 < y.M := Nat.lt_of_lt_of_le (Nat.pow_pos (by decide)) hB
          obtain ⟨r1, r2, r3, r4, r5, r6⟩ := quo_round hP hP1 hA hB2 hB0 (x.e - y.e)
          rw [show p.toNat = Pn by omega]
          have e4 : x.e - y.e - (((Pn + 4 : Nat)) : Int) = x.e - y.e - (p + 4) := by omega
          refine sDiv_11 f mode a b _ _ _ _ _ _ _ _ HF HUa HUb hQa hQb cx cy _ sa0 sa1 sb0 sb1 hm1 hm2 (x.e - y.e - (p + 4)) (decide (x.M * 2 ^ (Pn + 4) % y.M ≠ 0)) (x.M * 2 ^ (Pn + 4) / y.M) (fun w => ?_) _ (fun v w hB => round_atD h mode hm.1 hm.2 ⟨1, mulS x.s y.s, x.e - y.e - (p + 4) - 1, quoM Pn x.M y.M⟩ rfl hms _ r3 (x.e - y.e - (p + 4)) (by omega) (by omega) _ r4 (fun mn mx one inf mode z fl => r6 _ _ _ _ _ _ _ _) 8 (by omega) v w hB) w
          have hq := l4Quotient_any h 1 x.s x.e 1 y.s y.e x.M y.M (by omega) (by omega) hB0 sa0 sa1 sb0 sb1 _ hm1 hm2 (by omega) (by omega) (by omega) (by omega) (Pn + 4) (by omega) w
          rw [e4] at hq
          exact hq
        · rw [if_neg (show ¬ (x.c = y.c ∧ x.c ≠ 1) by omega), if_neg (show ¬ x.c = 2 by omega), if_neg (show ¬ (x.c = 1 ∧ y.c = 0) by omega), if_neg (show ¬ (x.c = 1 ∧ y.c = 1) by omega)]
          refine (sDiv_12 f mode a b _ _ _ _ _ _ _ _ HF HUa HUb hQa hQb cx cy _ sa0 sa1 sb0 sb1 hm1 hm2 (sw (mulS x.s y.s) sg 0) 0 (fun w => l3Zero_any h _ hms w) w).mono ?_
          rintro e w' ⟨rfl, hg⟩
          exact ⟨_, _, .inl (.inl ⟨rfl, rfl, rfl⟩), rfl, hg⟩
        · rw [if_neg (show ¬ (x.c = y.c ∧ x.c ≠ 1) by omega), if_pos cx]
          refine (sDiv_20 f mode a b _ _ _ _ _ _ _ _ HF HUa HUb hQa hQb cx cy _ sa0 sa1 sb0 sb1 hm1 hm2 (sw (mulS x.s y.s) sg inf) 0 (fun w => l3Infinity_any h _ hms w) w).mono ?_
          rintro e w' ⟨rfl, hg⟩
          exact ⟨_, _, .inl (.inr (.inr (.inl ⟨rfl, rfl, rfl⟩))), rfl, hg⟩
        · rw [if_neg (show ¬ (x.c = y.c ∧ x.c ≠ 1) by omega), if_pos cx]
          refine (sDiv_21 f mode a b _ _ _ _ _ _ _ _ HF HUa HUb hQa hQb cx cy _ sa0 sa1 sb0 sb1 hm1 hm2 (sw (mulS x.s y.s) sg inf) 0 (fun w => l3Infinity_any h _ hms w) w).mono ?_
          rintro e w' ⟨rfl, hg⟩
          exact ⟨_, _, .inl (.inr (.inr (.inl ⟨rfl, rfl, rfl⟩))), rfl, hg⟩
        · rw [if_pos (show x.c = y.c ∧ x.c ≠ 1 by omega)]
          refine (sDiv_22 f mode a b _ _ _ _ _ _ _ _ HF HUa HUb hQa hQb cx cy nan 1 (fun w => l2Bad_fmt h w) w).mono ?_
          rintro e w' ⟨rfl, hg⟩
          exact ⟨_, _, .inl (bad_nan rfl), rfl, hg⟩
  · refine (sDiv_bad f mode a b (fun w => l3Fits_no f mode a b a0 a1 b0 b1 (nofit_of h a1 b1 (by omega)) w) nan 1 (fun w => l2Bad_fmt h w) w).mono ?_
    rintro e w' ⟨rfl, hg⟩
    refine ⟨_, _, ?_, rfl, hg⟩
    have : max x.c y.c = 4 := by
      rcases (show 2 * sg ≤ a ∨ 2 * sg ≤ b by omega) with c | c
      · have := opd_wide h hx c; subst this; dsimp only at *; omega
      · have := opd_wide h hy c; subst this; dsimp only at *; omega
    rw [divO_nan p mode x y (by omega)]
    exact .inl (bad_nan this)

theorem specDiv_any (f mode a b : Int) (a0 : 0 ≤ a) (a1 : a < 18446744073709551616) (b0 : 0 ≤ b) (b1 : b < 18446744073709551616) (w : World) :
    Calls Tryd.prog 13 #[.int .i64 f, .int .i64 mode, .int .u64 a, .int .u64 b] w fun e w' => ∃ Z fl, OpRD divO f mode a b Z fl ∧ e = .returned (.agg #[.int .u64 Z, .int .i64 fl]) ∧ Gb w w' := by
  by_cases hf : f = 0 ∨ f = 1
  · obtain ⟨p, mx, one, inf, sg, nan, hF⟩ := fmt_of f hf
    by_cases hm : 0 ≤ mode ∧ mode ≤ 4
    · obtain ⟨x, hx⟩ := opd_ex hF a a0 a1
      obtain ⟨y, hy⟩ := opd_ex hF b b0 b1
      refine (specDiv_ok hF mode a b hm a0 a1 b0 b1 hx hy w).mono ?_
      rintro e w' ⟨Z, fl, hp, rfl, hg⟩
      exact ⟨_, _, .inl ⟨p, mx, one, inf, sg, nan, x, y, hF, hm, hx, hy, hp⟩, rfl, hg⟩
    · refine (sDiv_bad f mode a b (fun w => l3Fits_no f mode a b a0 a1 b0 b1 (.inl (by omega)) w) nan 1 (fun w => l2Bad_fmt hF w) w).mono ?_
      rintro e w' ⟨rfl, hg⟩
      exact ⟨_, _, .inr (.inl ⟨p, mx, one, inf, sg, nan, hF, by omega, rfl, rfl⟩), rfl, hg⟩
  · refine (sDiv_bad f mode a b (fun w => l3Fits_no f mode a b a0 a1 b0 b1 (.inr (.inl hf)) w) _ 1 (fun w => l2Bad_no f hf w) w).mono ?_
    rintro e w' ⟨rfl, hg⟩
    exact ⟨_, _, .inr (.inr ⟨hf, rfl, rfl⟩), rfl, hg⟩

theorem div_same (f mode a b : Int) (a0 : 0 ≤ a) (a1 : a < 18446744073709551616) (b0 : 0 ≤ b) (b1 : b < 18446744073709551616) :
    ∃ Z fl : Int, OpRD divO f mode a b Z fl ∧ (∀ w, Calls Tryd.prog 13 #[.int .i64 f, .int .i64 mode, .int .u64 a, .int .u64 b] w fun e w' => e = .returned (.agg #[.int .u64 Z, .int .i64 fl]) ∧ Gb w w') ∧
      (∀ w, Fm w → Calls Tryd.prog 14 #[.int .i64 f, .int .i64 mode, .int .u64 a, .int .u64 b] w fun e w' => e = .returned (.agg #[.int .u64 Z, .int .i64 fl]) ∧ Gr w w') :=
  both_ofD divO 13 14 _ divO_c f mode a b a0 a1 b0 b1 (specDiv_any f mode a b a0 a1 b0 b1) (implDiv_any f mode a b a0 a1 b0 b1)
end Go.Proofs.YtkflpogmhailhaaDoor
