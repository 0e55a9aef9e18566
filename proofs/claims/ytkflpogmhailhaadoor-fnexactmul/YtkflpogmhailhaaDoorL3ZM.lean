/- The answers of Mul and Sub, of both sides. -/
import Derived.Test.YtkflpogmhailhaaDoorL3Y
import Derived.Test.YtkflpogmhailhaaDoorB8
import Derived.Test.YtkflpogmhailhaaDoorB5
import Derived.Test.YtkflpogmhailhaaDoorL3WM
set_option linter.unusedVariables false
set_option linter.unusedSimpArgs false
namespace Go.Proofs.YtkflpogmhailhaaDoor
open Go.RowKit

def mulO (mode : Int) (x y : Opd) : Opd := prodO x y

theorem implMul_any (f mode a b : Int) (a0 : 0 ≤ a) (a1 : a < 18446744073709551616) (b0 : 0 ≤ b) (b1 : b < 18446744073709551616) (w : World) (hw : Fm w) :
    Calls Tryd.prog 20 #[.int .i64 f, .int .i64 mode, .int .u64 a, .int .u64 b] w fun e w' => ∃ Z fl, OpR mulO f mode a b Z fl ∧ e = .returned (.agg #[.int .u64 Z, .int .i64 fl]) ∧ Gr w w' := by
  refine implMul_of f mode a b (OpR mulO f mode a b) (fun w' hg => ?_)
  have hw' := hw.gr hg
  by_cases hf : f = 0 ∨ f = 1
  · obtain ⟨p, mx, one, inf, sg, nan, hF⟩ := fmt_of f hf
    obtain ⟨mn, fb, sp, hM, hmn, hfb⟩ := hF.m
    by_cases hm : 0 ≤ mode ∧ mode ≤ 4
    · obtain ⟨k, hk⟩ := rule_of mode hm.1 hm.2
      obtain ⟨x, hx, HA⟩ := opd_is hF hM a a0 a1
      obtain ⟨y, hy, HB⟩ := opd_is hF hM b b0 b1
      obtain ⟨v1, v2, v3, v4, v5, v6⟩ := opd_vo hF hx
      obtain ⟨u1, u2, u3, u4, u5, u6⟩ := opd_vo hF hy
      refine (calc_ok p mn mx mode f k 54 a b _ _ _ _ _ _ _ _ _ _ _ _ (fun w'' hg' => settingOf_yes hF hM mode k (fun w => ruleOf_yes mode k hk w) (hw'.gr hg')) HA HB (SameV (mulO mode x y)) (fun w => (combine_product_any p mn mx mode k x y v1 u1 (by omega) (by omega) w).mono (fun e w' ⟨he, hg⟩ => ⟨_, _, _, _, _, _, (prodO_vo v1 u1 v6 u6 v4 v5 u4 u5).same, he, hg⟩)) (PackIs p mn mx one inf sg nan mode (mulO mode x y)) (fun os oe oc oh ol ot w hq => pack_any hM mode k hk _ os oe oc oh ol ot hq w)).mono ?_
      rintro e w'' ⟨Z, fl, hp, rfl, hg'⟩
      rw [hmn] at hp
      exact ⟨_, _, .inl ⟨p, mx, one, inf, sg, nan, x, y, hF, hm, hx, hy, hp⟩, rfl, hg'⟩
    · refine (calc_no p mn mx mode nan f mode a b (fun w'' hg' => settingOf_bad hF hM mode (fun w => ruleOf_no mode (by omega) w) (hw'.gr hg')) (fun w => invalid_any hM w) 54).mono ?_
      rintro e w'' ⟨rfl, hg'⟩
      exact ⟨_, _, .inr (.inl ⟨p, mx, one, inf, sg, nan, hF, by omega, rfl, rfl⟩), rfl, hg'⟩
  · refine (calc_no _ _ _ _ _ f mode a b (fun w'' hg' => settingOf_none f mode hf (hw'.gr hg')) (fun w => invalid_any m64 w) 54).mono ?_
    rintro e w'' ⟨rfl, hg'⟩
    exact ⟨_, _, .inr (.inr ⟨hf, rfl, rfl⟩), rfl, hg'⟩

theorem specMul_ok {f p mx one inf sg nan : Int} (h : IsFmt f p mx one inf sg nan) (mode a b : Int) (hm : 0 ≤ mode ∧ mode ≤ 4) (a0 : 0 ≤ a) (a1 : a < 18446744073709551616) (b0 : 0 ≤ b) (b1 : b < 18446744073709551616) {x y : Opd} (hx : OpdIs p mx one inf sg nan a x) (hy : OpdIs p mx one inf sg nan b y) (w : World) :
    Calls Tryd.prog 19 #[.int .i64 f, .int .i64 mode, .int .u64 a, .int .u64 b] w fun e w' => ∃ Z fl, PackIs p (1 - mx) mx one inf sg nan mode (mulO mode x y) Z fl ∧ e = .returned (.agg #[.int .u64 Z, .int .i64 fl]) ∧ Gb w w' := by
  obtain ⟨v1, v2, v3, v4, v5, v6⟩ := opd_vo h hx
  obtain ⟨u1, u2, u3, u4, u5, u6⟩ := opd_vo h hy
  have xc0 := v1.c0
  have xc4 := v1.c4
  have yc0 := u1.c0
  have yc4 := u1.c4
  have hms : mulS x.s y.s = 0 ∨ mulS x.s y.s = 1 := by unfold mulS; split <;> simp
  unfold mulO
  by_cases hfit : a < 2 * sg ∧ b < 2 * sg
  · obtain ⟨fa, fb'⟩ := hfit
    have HF : Hid (∀ w, Calls Tryd.prog 25 #[.int .i64 f, .int .i64 mode, .int .u64 a, .int .u64 b] w fun e w' => e = .returned (.bool true) ∧ w = w') := fun w => l3Fits_yes h mode a b hm.1 hm.2 a0 fa b0 fb' w
    have HUa := unp_det h a a0 fa hx
    have HUb := unp_det h b b0 fb' hy
    have HQ : ∀ (z : Opd) (t : Bool), t = decide (3 ≤ z.c) → Hid (∀ w, Calls Tryd.prog 28 #[.agg #[.int .i64 z.c, .int .i64 z.s, .int .i64 z.e, .int .u64 (((z.M : Nat) : Int))]] w fun e w' => e = .returned (.bool t) ∧ Gr w w') := fun z t ht w => l3Quiet_any _ _ _ _ t ht w
    have HNan : ∀ t : Bool, Hid (∀ w, Calls Tryd.prog 29 #[.int .i64 f, .bool t] w fun e w' => e = .returned (.agg #[.int .u64 nan, .int .i64 (if t then 1 else 0)]) ∧ Gr w w') := fun t w => l3Nan_any h t _ rfl w
    by_cases c1 : 3 ≤ x.c
    · rw [prodO_nan x y (by omega)]
      by_cases c2 : x.c = 4
      · refine (sMul_nan1 f mode a b _ _ _ _ _ _ _ _ HF HUa HUb (HQ x true (by simp [c1])) (by simp [c2]) nan _ (HNan true) w).mono ?_
        rintro e w' ⟨rfl, hg⟩
        exact ⟨_, _, nan_pack _ true (by simp; omega) (by omega) (by omega), rfl, hg⟩
      · refine (sMul_nan2 f mode a b _ _ _ _ _ _ _ _ HF HUa HUb (HQ x true (by simp [c1])) (by simp [c2]) (decide (y.c = 4)) (bq _ _) nan _ (HNan _) w).mono ?_
        rintro e w' ⟨rfl, hg⟩
        exact ⟨_, _, nan_pack _ _ (by rw [decide_eq_decide]; omega) (by omega) (by omega), rfl, hg⟩
    · by_cases c2 : 3 ≤ y.c
      · rw [prodO_nan x y (by omega)]
        refine (sMul_nan3 f mode a b _ _ _ _ _ _ _ _ HF HUa HUb (HQ x false (by simp; omega)) (HQ y true (by simp [c2])) (by simp; omega) (decide (y.c = 4)) (bq _ _) nan _ (HNan _) w).mono ?_
        rintro e w' ⟨rfl, hg⟩
        exact ⟨_, _, nan_pack _ _ (by rw [decide_eq_decide]; omega) (by omega) (by omega), rfl, hg⟩
      · have hQa := HQ x false (by simp; omega)
        have hQb := HQ y false (by simp; omega)
        have HPr : ∀ t : Bool, t = decide (x.c = 2 ∧ y.c = 0 ∨ x.c = 0 ∧ y.c = 2) → Hid (∀ w, Calls Tryd.prog 52 #[.agg #[.int .i64 x.c, .int .i64 x.s, .int .i64 x.e, .int .u64 (((x.M : Nat) : Int))], .agg #[.int .i64 y.c, .int .i64 y.s, .int .i64 y.e, .int .u64 (((y.M : Nat) : Int))]] w fun e w' => e = .returned (.bool t) ∧ Gr w w') := fun t ht w => l3NoProduct_any _ _ _ _ _ _ _ _ t ht w
        have HM : Hid (∀ w, Calls Tryd.prog 53 #[.agg #[.int .i64 x.c, .int .i64 x.s, .int .i64 x.e, .int .u64 (((x.M : Nat) : Int))], .agg #[.int .i64 y.c, .int .i64 y.s, .int .i64 y.e, .int .u64 (((y.M : Nat) : Int))]] w fun e w' => ∃ b k cc, BigN 4 w' (.slice (some ⟨b, 0, none⟩) k cc) (x.M * y.M) ∧ e = .returned (.agg #[.int .i64 (mulS x.s y.s), .slice (some ⟨b, 0, none⟩) k cc, .int .i64 (x.e + y.e), .bool false]) ∧ Gb w w') := fun w => l3Product_any _ _ _ _ _ _ x.M y.M (by omega) (by omega) v1.s01 u1.s01 (by omega) (by omega) (by omega) (by omega) w
        unfold prodO
        rw [if_neg (show ¬ 3 ≤ max x.c y.c by omega)]
        by_cases c3 : x.c = 2 ∧ y.c = 0 ∨ x.c = 0 ∧ y.c = 2
        · rw [if_pos (show min x.c y.c = 0 ∧ max x.c y.c = 2 by omega)]
          refine (sMul_no f mode a b _ _ _ _ _ _ _ _ HF HUa HUb hQa hQb (HPr true (by simp [c3])) nan 1 (fun w => l2Bad_fmt h w) w).mono ?_
          rintro e w' ⟨rfl, hg⟩
          exact ⟨_, _, bad_nan rfl, rfl, hg⟩
        · have hP := HPr false (decide_eq_false c3).symm
          rw [if_neg (show ¬ (min x.c y.c = 0 ∧ max x.c y.c = 2) by omega)]
          by_cases c4 : x.c = 2
          · rw [if_neg (show ¬ min x.c y.c = 0 by omega), if_pos (show max x.c y.c = 2 by omega)]
            refine (sMul_inf1 f mode a b _ _ _ _ _ _ _ _ _ _ _ HF HUa HUb hQa hQb hP HM c4 (sw (mulS x.s y.s) sg inf) 0 (fun w => l3Infinity_any h _ hms w) w).mono ?_
            rintro e w' ⟨rfl, hg⟩
            exact ⟨_, _, .inr (.inr (.inl ⟨rfl, rfl, rfl⟩)), rfl, hg⟩
          · by_cases c5 : y.c = 2
            · rw [if_neg (show ¬ min x.c y.c = 0 by omega), if_pos (show max x.c y.c = 2 by omega)]
              refine (sMul_inf2 f mode a b _ _ _ _ _ _ _ _ _ _ _ HF HUa HUb hQa hQb hP HM (by simp [c4]) c5 (sw (mulS x.s y.s) sg inf) 0 (fun w => l3Infinity_any h _ hms w) w).mono ?_
              rintro e w' ⟨rfl, hg⟩
              exact ⟨_, _, .inr (.inr (.inl ⟨rfl, rfl, rfl⟩)), rfl, hg⟩
            · by_cases c6 : min x.c y.c = 0
              · rw [if_pos c6]
                have hz : x.M * y.M = 0 := by
                  rcases (show x.c = 0 ∨ y.c = 0 by omega) with c | c
                  · rw [v3 (by omega), Nat.zero_mul]
                  · rw [u3 (by omega), Nat.mul_zero]
                refine (sMul_zero f mode a b _ _ _ _ _ _ _ _ _ _ _ HF HUa HUb hQa hQb hP HM (by simp [c4]) (by simp [c5]) hz (sw (mulS x.s y.s) sg 0) 0 (fun w => l3Zero_any h _ hms w) w).mono ?_
                rintro e w' ⟨rfl, hg⟩
                exact ⟨_, _, .inl ⟨rfl, rfl, rfl⟩, rfl, hg⟩
              · rw [if_neg c6, if_neg (show ¬ max x.c y.c = 2 by omega)]
                have ex := (v1.fin (by omega)).1
                have ey := (u1.fin (by omega)).1
                have hpos : 0 < x.M * y.M := Nat.mul_pos ex ey
                exact sMul_num f mode a b _ _ _ _ _ _ _ _ _ _ _ HF HUa HUb hQa hQb hP HM (by simp [c4]) (by simp [c5]) hpos _ (fun v w hB => round_at h mode hm.1 hm.2 ⟨1, mulS x.s y.s, x.e + y.e, x.M * y.M⟩ rfl hms hpos (by dsimp only; omega) (by dsimp only; omega) 4 (by omega) v w hB) w
  · refine (sMul_bad f mode a b (fun w => l3Fits_no f mode a b a0 a1 b0 b1 (nofit_of h a1 b1 (by omega)) w) nan 1 (fun w => l2Bad_fmt h w) w).mono ?_
    rintro e w' ⟨rfl, hg⟩
    refine ⟨_, _, ?_, rfl, hg⟩
    have : max x.c y.c = 4 := by
      rcases (show 2 * sg ≤ a ∨ 2 * sg ≤ b by omega) with c | c
      · have := opd_wide h hx c; subst this; dsimp only at *; omega
      · have := opd_wide h hy c; subst this; dsimp only at *; omega
    rw [prodO_nan x y (by omega)]
    exact bad_nan this


theorem specMul_any (f mode a b : Int) (a0 : 0 ≤ a) (a1 : a < 18446744073709551616) (b0 : 0 ≤ b) (b1 : b < 18446744073709551616) (w : World) :
    Calls Tryd.prog 19 #[.int .i64 f, .int .i64 mode, .int .u64 a, .int .u64 b] w fun e w' => ∃ Z fl, OpR mulO f mode a b Z fl ∧ e = .returned (.agg #[.int .u64 Z, .int .i64 fl]) ∧ Gb w w' := by
  by_cases hf : f = 0 ∨ f = 1
  · obtain ⟨p, mx, one, inf, sg, nan, hF⟩ := fmt_of f hf
    by_cases hm : 0 ≤ mode ∧ mode ≤ 4
    · obtain ⟨x, hx⟩ := opd_ex hF a a0 a1
      obtain ⟨y, hy⟩ := opd_ex hF b b0 b1
      refine (specMul_ok hF mode a b hm a0 a1 b0 b1 hx hy w).mono ?_
      rintro e w' ⟨Z, fl, hp, rfl, hg⟩
      exact ⟨_, _, .inl ⟨p, mx, one, inf, sg, nan, x, y, hF, hm, hx, hy, hp⟩, rfl, hg⟩
    · refine (sMul_bad f mode a b (fun w => l3Fits_no f mode a b a0 a1 b0 b1 (.inl (by omega)) w) nan 1 (fun w => l2Bad_fmt hF w) w).mono ?_
      rintro e w' ⟨rfl, hg⟩
      exact ⟨_, _, .inr (.inl ⟨p, mx, one, inf, sg, nan, hF, by omega, rfl, rfl⟩), rfl, hg⟩
  · refine (sMul_bad f mode a b (fun w => l3Fits_no f mode a b a0 a1 b0 b1 (.inr (.inl hf)) w) _ 1 (fun w => l2Bad_no f hf w) w).mono ?_
    rintro e w' ⟨rfl, hg⟩
    exact ⟨_, _, .inr (.inr ⟨hf, rfl, rfl⟩), rfl, hg⟩


theorem prodO_c (mode : Int) (x y : Opd) (hx : VO x) (hy : VO y) (h1 : nb x.M ≤ 53) (h2 : nb y.M ≤ 53) (h3 : -2000 ≤ x.e) (h4 : x.e ≤ 2000) (h5 : -2000 ≤ y.e) (h6 : y.e ≤ 2000) : 0 ≤ (mulO mode x y).c ∧ (mulO mode x y).c ≤ 4 := ⟨(prodO_vo hx hy h1 h2 h3 h4 h5 h6).c0, (prodO_vo hx hy h1 h2 h3 h4 h5 h6).c4⟩

theorem mul_same (f mode a b : Int) (a0 : 0 ≤ a) (a1 : a < 18446744073709551616) (b0 : 0 ≤ b) (b1 : b < 18446744073709551616) :
    ∃ Z fl : Int, OpR mulO f mode a b Z fl ∧ (∀ w, Calls Tryd.prog 19 #[.int .i64 f, .int .i64 mode, .int .u64 a, .int .u64 b] w fun e w' => e = .returned (.agg #[.int .u64 Z, .int .i64 fl]) ∧ Gb w w') ∧
      (∀ w, Fm w → Calls Tryd.prog 20 #[.int .i64 f, .int .i64 mode, .int .u64 a, .int .u64 b] w fun e w' => e = .returned (.agg #[.int .u64 Z, .int .i64 fl]) ∧ Gr w w') :=
  both_of mulO 19 20 prodO_c f mode a b a0 a1 b0 b1 (specMul_any f mode a b a0 a1 b0 b1) (implMul_any f mode a b a0 a1 b0 b1)


end Go.Proofs.YtkflpogmhailhaaDoor
