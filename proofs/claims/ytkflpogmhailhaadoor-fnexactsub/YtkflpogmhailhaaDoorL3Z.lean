/- The answers of Add and Mul, of both sides. -/
import Derived.Test.YtkflpogmhailhaaDoorL3Y
import Derived.Test.YtkflpogmhailhaaDoorL3WA
import Derived.Test.YtkflpogmhailhaaDoorL3ZI
set_option linter.unusedVariables false
set_option linter.unusedSimpArgs false
namespace Go.Proofs.YtkflpogmhailhaaDoor
open Go.RowKit

theorem specAdd_ok {f p mx one inf sg nan : Int} (h : IsFmt f p mx one inf sg nan) (mode a b : Int) (hm : 0 ≤ mode ∧ mode ≤ 4) (a0 : 0 ≤ a) (a1 : a < 18446744073709551616) (b0 : 0 ≤ b) (b1 : b < 18446744073709551616) {x y : Opd} (hx : OpdIs p mx one inf sg nan a x) (hy : OpdIs p mx one inf sg nan b y) (w : World) :
    Calls Tryd.prog 17 #[.int .i64 f, .int .i64 mode, .int .u64 a, .int .u64 b] w fun e w' => ∃ Z fl, PackIs p (1 - mx) mx one inf sg nan mode (sumO mode x y) Z fl ∧ e = .returned (.agg #[.int .u64 Z, .int .i64 fl]) ∧ Gb w w' := by
  obtain ⟨v1, v2, v3, v4, v5, v6⟩ := opd_vo h hx
  obtain ⟨u1, u2, u3, u4, u5, u6⟩ := opd_vo h hy
  have xc0 := v1.c0
  have xc4 := v1.c4
  have yc0 := u1.c0
  have yc4 := u1.c4
  by_cases hfit : a < 2 * sg ∧ b < 2 * sg
  · obtain ⟨fa, fb'⟩ := hfit
    have HF : Hid (∀ w, Calls Tryd.prog 25 #[.int .i64 f, .int .i64 mode, .int .u64 a, .int .u64 b] w fun e w' => e = .returned (.bool true) ∧ w = w') := fun w => l3Fits_yes h mode a b hm.1 hm.2 a0 fa b0 fb' w
    have HUa := unp_det h a a0 fa hx
    have HUb := unp_det h b b0 fb' hy
    have HQ : ∀ (z : Opd) (t : Bool), t = decide (3 ≤ z.c) → Hid (∀ w, Calls Tryd.prog 28 #[.agg #[.int .i64 z.c, .int .i64 z.s, .int .i64 z.e, .int .u64 (((z.M : Nat) : Int))]] w fun e w' => e = .returned (.bool t) ∧ Gr w w') := fun z t ht w => l3Quiet_any _ _ _ _ t ht w
    have HNan : ∀ t : Bool, Hid (∀ w, Calls Tryd.prog 29 #[.int .i64 f, .bool t] w fun e w' => e = .returned (.agg #[.int .u64 nan, .int .i64 (if t then 1 else 0)]) ∧ Gr w w') := fun t w => l3Nan_any h t _ rfl w
    by_cases c1 : 3 ≤ x.c
    · rw [sumO_nan mode x y (by omega)]
      by_cases c2 : x.c = 4
      · refine (sAdd_nan1 f mode a b _ _ _ _ _ _ _ _ HF HUa HUb (HQ x true (by simp [c1])) (by simp [c2]) nan _ (HNan true) w).mono ?_
        rintro e w' ⟨rfl, hg⟩
        exact ⟨_, _, nan_pack _ true (by simp; omega) (by omega) (by omega), rfl, hg⟩
      · refine (sAdd_nan2 f mode a b _ _ _ _ _ _ _ _ HF HUa HUb (HQ x true (by simp [c1])) (by simp [c2]) (decide (y.c = 4)) (bq _ _) nan _ (HNan _) w).mono ?_
        rintro e w' ⟨rfl, hg⟩
        exact ⟨_, _, nan_pack _ _ (by rw [decide_eq_decide]; omega) (by omega) (by omega), rfl, hg⟩
    · by_cases c2 : 3 ≤ y.c
      · rw [sumO_nan mode x y (by omega)]
        refine (sAdd_nan3 f mode a b _ _ _ _ _ _ _ _ HF HUa HUb (HQ x false (by simp; omega)) (HQ y true (by simp [c2])) (by simp; omega) (decide (y.c = 4)) (bq _ _) nan _ (HNan _) w).mono ?_
        rintro e w' ⟨rfl, hg⟩
        exact ⟨_, _, nan_pack _ _ (by rw [decide_eq_decide]; omega) (by omega) (by omega), rfl, hg⟩
      · have hQa := HQ x false (by simp; omega)
        have hQb := HQ y false (by simp; omega)
        by_cases c3 : x.c = 2
        · by_cases c4 : y.c = 2
          · by_cases c5 : x.s = y.s
            · refine (sAdd_inf2 f mode a b _ _ _ _ _ _ _ _ HF HUa HUb hQa hQb c3 c4 c5 (sw x.s sg inf) 0 (fun w => l3Infinity_any h x.s v1.s01 w) w).mono ?_
              rintro e w' ⟨rfl, hg⟩
              refine ⟨_, _, ?_, rfl, hg⟩
              unfold sumO
              rw [if_neg (show ¬ 3 ≤ max x.c y.c by omega), if_neg (show ¬ y.c < x.c by omega), if_neg (show ¬ x.c < y.c by omega), if_neg (show ¬ x.c = 1 by omega), if_pos c5]
              exact .inr (.inr (.inl ⟨c3, rfl, rfl⟩))
            · refine (sAdd_inf0 f mode a b _ _ _ _ _ _ _ _ HF HUa HUb hQa hQb c3 c4 (by simp [c5]) nan 1 (fun w => l2Bad_fmt h w) w).mono ?_
              rintro e w' ⟨rfl, hg⟩
              refine ⟨_, _, ?_, rfl, hg⟩
              unfold sumO
              rw [if_neg (show ¬ 3 ≤ max x.c y.c by omega), if_neg (show ¬ y.c < x.c by omega), if_neg (show ¬ x.c < y.c by omega), if_neg (show ¬ x.c = 1 by omega), if_neg c5, if_pos c3]
              exact bad_nan rfl
          · refine (sAdd_inf1 f mode a b _ _ _ _ _ _ _ _ HF HUa HUb hQa hQb c3 (by simp [c4]) (sw x.s sg inf) 0 (fun w => l3Infinity_any h x.s v1.s01 w) w).mono ?_
            rintro e w' ⟨rfl, hg⟩
            refine ⟨_, _, ?_, rfl, hg⟩
            unfold sumO
            rw [if_neg (show ¬ 3 ≤ max x.c y.c by omega), if_pos (show y.c < x.c by omega)]
            exact .inr (.inr (.inl ⟨c3, rfl, rfl⟩))
        · by_cases c4 : y.c = 2
          · refine (sAdd_inf3 f mode a b _ _ _ _ _ _ _ _ HF HUa HUb hQa hQb (by simp [c3]) c4 (sw y.s sg inf) 0 (fun w => l3Infinity_any h y.s u1.s01 w) w).mono ?_
            rintro e w' ⟨rfl, hg⟩
            refine ⟨_, _, ?_, rfl, hg⟩
            unfold sumO
            rw [if_neg (show ¬ 3 ≤ max x.c y.c by omega), if_neg (show ¬ y.c < x.c by omega), if_pos (show x.c < y.c by omega)]
            exact .inr (.inr (.inl ⟨c4, rfl, rfl⟩))
          · exact sAdd_sum f mode a b _ _ _ _ _ _ _ _ x.M y.M HF HUa HUb hQa hQb (by simp [c3]) (by simp [c4]) (fun w => l3Number_any _ _ _ x.M (by omega) w) (fun w => l3Number_any _ _ _ y.M (by omega) w) (fun Z fl => PackIs p (1 - mx) mx one inf sg nan mode (sumO mode x y) Z fl) (fun ba ka qa bb kb qb w HX HY => l3Sum_any h mode hm.1 hm.2 x y v1 u1 (by omega) (by omega) (by omega) (by omega) (by omega) (by omega) ba ka qa bb kb qb HX HY) w
  · refine (sAdd_bad f mode a b (fun w => l3Fits_no f mode a b a0 a1 b0 b1 (nofit_of h a1 b1 (by omega)) w) nan 1 (fun w => l2Bad_fmt h w) w).mono ?_
    rintro e w' ⟨rfl, hg⟩
    refine ⟨_, _, ?_, rfl, hg⟩
    have : max x.c y.c = 4 := by
      rcases (show 2 * sg ≤ a ∨ 2 * sg ≤ b by omega) with c | c
      · have := opd_wide h hx c; subst this; dsimp only at *; omega
      · have := opd_wide h hy c; subst this; dsimp only at *; omega
    rw [sumO_nan mode x y (by omega)]
    exact bad_nan this

theorem specAdd_any (f mode a b : Int) (a0 : 0 ≤ a) (a1 : a < 18446744073709551616) (b0 : 0 ≤ b) (b1 : b < 18446744073709551616) (w : World) :
    Calls Tryd.prog 17 #[.int .i64 f, .int .i64 mode, .int .u64 a, .int .u64 b] w fun e w' => ∃ Z fl, OpR sumO f mode a b Z fl ∧ e = .returned (.agg #[.int .u64 Z, .int .i64 fl]) ∧ Gb w w' := by
  by_cases hf : f = 0 ∨ f = 1
  · obtain ⟨p, mx, one, inf, sg, nan, hF⟩ := fmt_of f hf
    by_cases hm : 0 ≤ mode ∧ mode ≤ 4
    · obtain ⟨x, hx⟩ := opd_ex hF a a0 a1
      obtain ⟨y, hy⟩ := opd_ex hF b b0 b1
      refine (specAdd_ok hF mode a b hm a0 a1 b0 b1 hx hy w).mono ?_
      rintro e w' ⟨Z, fl, hp, rfl, hg⟩
      exact ⟨_, _, .inl ⟨p, mx, one, inf, sg, nan, x, y, hF, hm, hx, hy, hp⟩, rfl, hg⟩
    · refine (sAdd_bad f mode a b (fun w => l3Fits_no f mode a b a0 a1 b0 b1 (.inl (by omega)) w) nan 1 (fun w => l2Bad_fmt hF w) w).mono ?_
      rintro e w' ⟨rfl, hg⟩
      exact ⟨_, _, .inr (.inl ⟨p, mx, one, inf, sg, nan, hF, by omega, rfl, rfl⟩), rfl, hg⟩
  · refine (sAdd_bad f mode a b (fun w => l3Fits_no f mode a b a0 a1 b0 b1 (.inr (.inl hf)) w) _ 1 (fun w => l2Bad_no f hf w) w).mono ?_
    rintro e w' ⟨rfl, hg⟩
    exact ⟨_, _, .inr (.inr ⟨hf, rfl, rfl⟩), rfl, hg⟩

theorem add_same (f mode a b : Int) (a0 : 0 ≤ a) (a1 : a < 18446744073709551616) (b0 : 0 ≤ b) (b1 : b < 18446744073709551616) :
    ∃ Z fl : Int, OpR sumO f mode a b Z fl ∧ (∀ w, Calls Tryd.prog 17 #[.int .i64 f, .int .i64 mode, .int .u64 a, .int .u64 b] w fun e w' => e = .returned (.agg #[.int .u64 Z, .int .i64 fl]) ∧ Gb w w') ∧
      (∀ w, Fm w → Calls Tryd.prog 18 #[.int .i64 f, .int .i64 mode, .int .u64 a, .int .u64 b] w fun e w' => e = .returned (.agg #[.int .u64 Z, .int .i64 fl]) ∧ Gr w w') :=
  both_of sumO 17 18 (fun mode x y hx hy _ _ _ _ _ _ => sumO_c mode x y hx hy) f mode a b a0 a1 b0 b1 (specAdd_any f mode a b a0 a1 b0 b1) (implAdd_any f mode a b a0 a1 b0 b1)


end Go.Proofs.YtkflpogmhailhaaDoor
