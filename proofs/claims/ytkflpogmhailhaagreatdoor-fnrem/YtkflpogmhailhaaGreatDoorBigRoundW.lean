/- spec.l2Round, whole. -/
import Derived.Test.YtkflpogmhailhaaGreatDoorA1
import Derived.Test.YtkflpogmhailhaaGreatDoorBigRoundP
import Derived.Test.YtkflpogmhailhaaGreatDoorBigRoundQ
import Derived.Test.YtkflpogmhailhaaGreatDoorBigRoundA
set_option linter.unusedVariables false
set_option linter.unusedSimpArgs false
namespace Go.Proofs.YtkflpogmhailhaaGreatDoor
open Go.RowKit

theorem nb_of_le {r P : Nat} (h : r ≤ 2 ^ P) : nb r ≤ P + 1 := nb_le (by have := pow2_mono (show P ≤ P + 1 by omega); rw [Nat.pow_succ] at *; have := Nat.pow_pos (n := P) (show 0 < 2 by decide); omega)
theorem nb_of_lt {r P : Nat} (h : r < 2 ^ P) : nb r ≤ P := nb_le h
theorem nb_pow (P : Nat) : nb (2 ^ P) = P + 1 := by
  have h1 := nb_of_le (Nat.le_refl (2 ^ P))
  have h2 := nb_gt (Nat.le_refl (2 ^ P))
  omega

/-- The sign's word. -/
theorem l2Round_any {f p mx one inf sg nan : Int} (h : IsFmt f p mx one inf sg nan) {v : Value} {n M : Nat} {w : World} (hB : Big w v n M) (hn : n ≤ 100000) (hM : 0 < M) (hnb : nb M ≤ 3200000)
    (mode sign e : Int) (rest : Bool) (m0 : 0 ≤ mode) (m1 : mode ≤ 4) (hs : sign = 0 ∨ sign = 1) (e0 : -900000 ≤ e) (e1 : e ≤ 900000) (hst : rest = true → p + 2 ≤ nb M) :
    Calls Tryz.prog 51 #[.int .i64 f, .int .i64 mode, .agg #[.int .i64 sign, v, .int .i64 e, .bool rest]] w fun x w' => ∃ z fl, RoundIs p (1 - mx) mx one inf mode sign M e rest z fl ∧ 0 ≤ z ∧ z < sg ∧ x = .returned (.agg #[.int .u64 (sw sign sg z), .int .i64 fl]) ∧ Gb w w' := by
  obtain ⟨b1, b2, b3, b4, b5, b6, b7, b8, b9, b10, b11, b12⟩ := h.bounds
  obtain ⟨mn, hmn⟩ : ∃ mn, 1 - mx = mn := ⟨_, rfl⟩
  have HR : Hid (RC f p mn mx one mode sign w) := rc_of h hmn mode sign m0 m1 hs w
  have HB : Hid (BigN 100000 w v M) := ⟨n, hn, hB⟩
  have hmnb : -1022 ≤ mn ∧ mn ≤ -126 := by omega
  obtain ⟨P, hP, hP63, hone⟩ := h.pow
  have hone' : one = ((2 ^ P : Nat) : Int) := by rw [hone]; push_cast; rfl
  have hinf : inf = one * (2 * mx + 1) := by rcases h with ⟨rfl, rfl, rfl, rfl, rfl, rfl, rfl⟩ | ⟨rfl, rfl, rfl, rfl, rfl, rfl, rfl⟩ <;> decide
  have hov : 0 ≤ ovMag inf mode sign ∧ ovMag inf mode sign < sg := by unfold ovMag; split <;> omega
  have hP2 : 2 ^ P ≤ 4503599627370496 := by omega
  have hsucc : 2 ^ (P + 1) = 2 * 2 ^ P := by rw [Nat.pow_succ]; omega
  have HOver : Hid (∀ w', Calls Tryz.prog 99 #[.int .i64 f, .int .i64 mode, .int .i64 sign] w' fun x w'' => x = .returned (.agg #[.int .u64 (sw sign sg (ovMag inf mode sign)), .int .i64 20]) ∧ Gr w' w'') := fun w' => l2Over_any h mode sign _ m0 m1 (by
    unfold sw
    rcases hs with rfl | rfl
    · exact .inl ⟨rfl, by simp⟩
    · exact .inr ⟨rfl, by simp⟩) w'
  have HPut : ∀ z : Int, 0 ≤ z → z < sg → Hid (∀ w', Calls Tryz.prog 61 #[.int .i64 f, .int .i64 sign, .int .u64 z] w' fun x w'' => x = .returned (.int .u64 (sw sign sg z)) ∧ w' = w'') := fun z z0 z1 w' => l2Put_any h sign z _ (by
    unfold sw
    rcases hs with rfl | rfl
    · exact .inl ⟨rfl, by simp⟩
    · exact .inr ⟨rfl, by simp⟩) z0 z1 w'
  obtain ⟨top, htop⟩ : ∃ top : Int, top = nb M + e - 1 := ⟨_, rfl⟩
  have hpos := nb_pos M hM
  rw [hmn]
  have HCut : ∀ q : Int, -1000000 ≤ q → q ≤ 1000000 → Hid (∀ w', Gb w w' → Calls Tryz.prog 100 #[.agg #[.int .i64 sign, v, .int .i64 e, .bool rest], .int .i64 q] w' fun x w'' => ∃ vL, x = .returned (.tuple #[vL, .int .i64 (cutHalf M e q rest : Int)]) ∧ BigN 180000 w'' vL (cutLo M e q) ∧ Gb w' w'') := fun q q0 q1 w' hg =>
    (l2Cut_any (hB.gb hg) hn sign e q rest (by omega) (by omega) q0 q1).mono (fun x w'' ⟨vL, k, a1, a2, a3, a4⟩ => ⟨vL, a1, ⟨k, by omega, a2⟩, a4⟩)
  by_cases ho : mx < top
  · refine (l2Round_O HB HR b1 b2 hmnb.1 hmnb.2 b3 b4 (by omega) b6 (by omega) (by omega) (by omega) (nb M + e) top rfl (by omega) _ HOver ho).mono ?_
    rintro x w' ⟨rfl, hg⟩
    by_cases hc : top < mn
    · exact ⟨_, _, ⟨top, mn, _, _, _, htop, .inl ⟨hc, rfl⟩, rfl, rfl, rfl, .inl ⟨ho, rfl, rfl⟩⟩, hov.1, hov.2, rfl, hg⟩
    · exact ⟨_, _, ⟨top, top, _, _, _, htop, .inr ⟨by omega, rfl⟩, rfl, rfl, rfl, .inl ⟨ho, rfl, rfl⟩⟩, hov.1, hov.2, rfl, hg⟩
  by_cases hlow : top < mn - p - 2
  · -- far below
    have hfar := cut_far M e (mn - p + 1) rest hM (by omega)
    have hcutA : ∀ q : Int, -1000000 ≤ q → q ≤ 1000000 → Hid (∀ v1 w', BigN 100000 w' v1 1 → Calls Tryz.prog 100 #[.agg #[.int .i64 sign, v1, .int .i64 (mn - p - 2), .bool true], .int .i64 q] w' fun x w'' => ∃ vL, x = .returned (.tuple #[vL, .int .i64 (cutHalf 1 (mn - p - 2) q true : Int)]) ∧ BigN 180000 w'' vL (cutLo 1 (mn - p - 2) q) ∧ Gb w' w'') := fun q q0 q1 v1 w' ⟨k1, hk1, hb1⟩ =>
      (l2Cut_any hb1 hk1 sign (mn - p - 2) q true (by omega) (by omega) q0 q1).mono (fun x w'' ⟨vL, k, a1, a2, a3, a4⟩ => ⟨vL, a1, ⟨k, by omega, a2⟩, a4⟩)
    have h1 : nb 1 = 1 := by decide
    have hfar1 := cut_far 1 (mn - p - 2) (mn - p + 1) true (by decide) (by rw [h1]; omega)
    have hr1 := chosen_le mode sign 0 1
    have hlo2 := cutLo_lt 1 (mn - p - 2) (mn - p - 2 - p + 1) p.toNat (by rw [h1]; omega)
    have hr2 := chosen_le mode sign (cutLo 1 (mn - p - 2) (mn - p - 2 - p + 1)) (cutHalf 1 (mn - p - 2) (mn - p - 2 - p + 1) true)
    have hnb2 := nb_of_le (r := chosen mode sign (cutLo 1 (mn - p - 2) (mn - p - 2 - p + 1)) (cutHalf 1 (mn - p - 2) (mn - p - 2 - p + 1) true)) (P := p.toNat) (by omega)
    have hnb1 := nb_of_le (r := chosen mode sign 0 1) (P := 0) (by omega)
    have HP' := HPut (chosen mode sign 0 1 : Nat) (by omega) (by omega)
    have hC1 := hcutA (mn - p + 1) (by omega) (by omega)
    rw [hfar1.1, hfar1.2] at hC1
    refine (l2Round_A HB HR b1 b2 hmnb.1 hmnb.2 b3 b4 (by omega) b6 (by omega) (by omega) (by omega) (nb M + e) top rfl (by omega) hlow 0 1 hC1 (by omega) (chosen mode sign 0 1) rfl (by omega) (by omega) _ HP' (by omega)
      _ _ (mn - p - 2 - p + 1) (mn - p - 2 - p) rfl rfl (hcutA (mn - p - 2 - p + 1) (by omega) (by omega)) (cutHalf_le _ _ _ _) _ rfl (by omega) (by omega)).mono ?_
    rintro x w' ⟨rfl, hg⟩
    refine ⟨_, _, ⟨top, mn, _, _, _, htop, .inl ⟨by omega, rfl⟩, rfl, rfl, rfl, .inr (.inr ⟨by omega, ?_, ?_, .inr (.inl ⟨?_, .inl (by omega), rfl⟩)⟩)⟩, ?_, ?_, rfl, hg⟩
    · rw [hfar.1, hfar.2]; simp; omega
    · rw [hfar.1, hfar.2]; simp
    · rw [hfar.2]; decide
    · omega
    · omega
  · by_cases hS : top < mn
    · -- below 2^mn
      have hlo := cutLo_lt M e (mn - p + 1) P (by omega)
      have hrl := chosen_le mode sign (cutLo M e (mn - p + 1)) (cutHalf M e (mn - p + 1) rest)
      obtain ⟨r, hr⟩ : ∃ r, chosen mode sign (cutLo M e (mn - p + 1)) (cutHalf M e (mn - p + 1) rest) = r := ⟨_, rfl⟩
      obtain ⟨r2, hr2⟩ : ∃ r2, chosen mode sign (cutLo M e (top - p + 1)) (cutHalf M e (top - p + 1) rest) = r2 := ⟨_, rfl⟩
      rw [hr] at hrl
      have hrP : r ≤ 2 ^ P := by omega
      have hnbr := nb_of_le hrP
      have hlo2 := cutLo_lt M e (top - p + 1) (P + 1) (by omega)
      have hrl2 := chosen_le mode sign (cutLo M e (top - p + 1)) (cutHalf M e (top - p + 1) rest)
      rw [hr2] at hrl2
      have hr2P : r2 ≤ 2 ^ (P + 1) := by omega
      have hnbr2 := nb_of_le hr2P
      have HP' := HPut (r : Int) (by omega) (by omega)
      have hinf2 : (r : Int) + one * (mn - mn) < inf := by rw [Int.sub_self, Int.mul_zero]; omega
      have hz : ((r : Nat) : Int) = (r : Int) + one * (mn - mn) := by rw [Int.sub_self, Int.mul_zero]; omega
      rcases Nat.eq_zero_or_pos (cutHalf M e (mn - p + 1) rest) with c | c
      · refine (l2Round_S0 HB HR b1 b2 hmnb.1 hmnb.2 b3 b4 (by omega) b6 (by omega) (by omega) (by omega) (nb M + e) top rfl (by omega) (by omega) hS _ _ (HCut (mn - p + 1) (by omega) (by omega)) (cutHalf_le _ _ _ _) r hr (by omega) _ HP' (by omega) (by omega)).mono ?_
        rintro x w' ⟨rfl, hg⟩
        exact ⟨_, _, ⟨top, mn, r, r2, _, htop, .inl ⟨hS, rfl⟩, rfl, hr.symm, hr2.symm, .inr (.inr ⟨by omega, hinf2, hz, .inl ⟨c, rfl⟩⟩)⟩, by omega, by omega, rfl, hg⟩
      · by_cases hty : (nb r2 : Int) + top - p < mn
        · refine (l2Round_S1 HB HR b1 b2 hmnb.1 hmnb.2 b3 b4 (by omega) b6 (by omega) (by omega) (by omega) (nb M + e) top rfl (by omega) (by omega) hS _ _ (HCut (mn - p + 1) (by omega) (by omega)) (cutHalf_le _ _ _ _) r hr (by omega) _ HP' (by omega) (by omega) _ _ (top - p + 1) (top - p) rfl rfl (HCut (top - p + 1) (by omega) (by omega)) (cutHalf_le _ _ _ _) r2 hr2 (by omega) hty).mono ?_
          rintro x w' ⟨rfl, hg⟩
          refine ⟨_, _, ⟨top, mn, r, r2, _, htop, .inl ⟨hS, rfl⟩, rfl, hr.symm, hr2.symm, .inr (.inr ⟨by omega, hinf2, hz, .inr (.inl ⟨c, ?_, rfl⟩)⟩)⟩, by omega, by omega, rfl, hg⟩
          by_cases ht1 : top = mn - 1
          · refine .inr ⟨ht1, ?_⟩
            have : r2 < 2 ^ (P + 1) := by
              rcases Nat.lt_or_ge r2 (2 ^ (P + 1)) with k | k
              · exact k
              · have := nb_gt k; omega
            omega
          · exact .inl (by omega)
        · refine (l2Round_S2 HB HR b1 b2 hmnb.1 hmnb.2 b3 b4 (by omega) b6 (by omega) (by omega) (by omega) (nb M + e) top rfl (by omega) (by omega) hS _ _ (HCut (mn - p + 1) (by omega) (by omega)) (cutHalf_le _ _ _ _) r hr (by omega) _ HP' (by omega) (by omega) _ _ (top - p + 1) (top - p) rfl rfl (HCut (top - p + 1) (by omega) (by omega)) (cutHalf_le _ _ _ _) r2 hr2 (by omega) (by omega)).mono ?_
          rintro x w' ⟨rfl, hg⟩
          refine ⟨_, _, ⟨top, mn, r, r2, _, htop, .inl ⟨hS, rfl⟩, rfl, hr.symm, hr2.symm, .inr (.inr ⟨by omega, hinf2, hz, .inr (.inr ⟨c, .inr ⟨by omega, ?_⟩, rfl⟩)⟩)⟩, by omega, by omega, rfl, hg⟩
          have : 2 ^ (P + 1) ≤ r2 := by
            rcases Nat.lt_or_ge r2 (2 ^ (P + 1)) with k | k
            · have := nb_of_lt k; omega
            · exact k
          omega
    · -- from 2^mn on
      have hlo := cutLo_lt M e (top - p + 1) (P + 1) (by omega)
      have hge := cutLo_ge M e (top - p + 1) P hM (by omega)
      have hrl := chosen_le mode sign (cutLo M e (top - p + 1)) (cutHalf M e (top - p + 1) rest)
      obtain ⟨r, hr⟩ : ∃ r, chosen mode sign (cutLo M e (top - p + 1)) (cutHalf M e (top - p + 1) rest) = r := ⟨_, rfl⟩
      rw [hr] at hrl
      have hnbr := nb_of_le (r := r) (P := P + 1) (by omega)
      have hnbl := nb_gt (N := r) (k := P) (by omega)
      obtain ⟨Y, hY⟩ : ∃ Y, one * (top - mn) = Y := ⟨_, rfl⟩
      have hYb : 0 ≤ Y ∧ Y ≤ one * (mx - mn) := by
        rw [← hY]
        exact ⟨Int.mul_nonneg (by omega) (by omega), Int.mul_le_mul_of_nonneg_left (by omega) (by omega)⟩
      have hYm : one * (mx - mn) = inf - 2 * one := by rw [hinf, show mx - mn = (2 * mx + 1) - 2 by omega, Int.mul_sub, Int.mul_comm one 2]
      have hYs : top < mx → Y ≤ inf - 3 * one := by
        intro k
        have : Y ≤ one * (mx - 1 - mn) := by rw [← hY]; exact Int.mul_le_mul_of_nonneg_left (by omega) (by omega)
        rw [show mx - 1 - mn = (2 * mx + 1) - 3 by omega, Int.mul_sub, ← hinf, Int.mul_comm one 3] at this
        omega
      by_cases hovf : mx < (nb r : Int) + (top - p + 1) - 1
      · have hrr : r = 2 ^ (P + 1) ∧ top = mx := by
          have hb : P + 1 < nb r := by omega
          have : 2 ^ (P + 1) ≤ r := by
            rcases Nat.lt_or_ge r (2 ^ (P + 1)) with k | k
            · have := nb_of_lt k; omega
            · exact k
          omega
        refine (l2Round_TO HB HR b1 b2 hmnb.1 hmnb.2 b3 b4 (by omega) b6 (by omega) (by omega) (by omega) (nb M + e) top rfl (by omega) (by omega) (by omega) _ _ (HCut (top - p + 1) (by omega) (by omega)) (cutHalf_le _ _ _ _) r hr (by omega) (by omega) _ HOver hovf).mono ?_
        rintro x w' ⟨rfl, hg⟩
        refine ⟨_, _, ⟨top, top, r, r, _, htop, .inr ⟨by omega, rfl⟩, rfl, hr.symm, hr.symm, .inr (.inl ⟨by omega, ?_, rfl, rfl⟩)⟩, hov.1, hov.2, rfl, hg⟩
        rw [hY]
        have : Y = one * (mx - mn) := by rw [← hY, hrr.2]
        omega
      · have hlt : (r : Int) + Y < inf := by
          rcases Nat.lt_or_ge r (2 ^ (P + 1)) with k | k
          · omega
          · have := nb_gt k
            have := hYs (by omega)
            omega
        have hz : (r : Int) + Y = (r : Int) + one * (top - mn) := by rw [hY]
        have hinf2 : (r : Int) + one * (top - mn) < inf := by rw [hY]; exact hlt
        by_cases hE : top = mn
        · have hY0 : Y = 0 := by rw [← hY, hE, Int.sub_self, Int.mul_zero]
          have HP' := HPut (r : Int) (by omega) (by omega)
          have hz' : (r : Int) = (r : Int) + one * (top - mn) := by rw [hY]; omega
          rcases Nat.eq_zero_or_pos (cutHalf M e (top - p + 1) rest) with c | c
          · refine (l2Round_TE0 HB HR b1 b2 hmnb.1 hmnb.2 b3 b4 (by omega) b6 (by omega) (by omega) (by omega) (nb M + e) top rfl (by omega) (by omega) (by omega) (by omega) _ _ (HCut (top - p + 1) (by omega) (by omega)) (cutHalf_le _ _ _ _) r hr (by omega) (by omega) _ HP' (by omega) (by omega)).mono ?_
            rintro x w' ⟨rfl, hg⟩
            exact ⟨_, _, ⟨top, top, r, r, _, htop, .inr ⟨by omega, rfl⟩, rfl, hr.symm, hr.symm, .inr (.inr ⟨by omega, hinf2, hz', .inl ⟨c, rfl⟩⟩)⟩, by omega, by omega, rfl, hg⟩
          · refine (l2Round_TE1 HB HR b1 b2 hmnb.1 hmnb.2 b3 b4 (by omega) b6 (by omega) (by omega) (by omega) (nb M + e) top rfl (by omega) (top - p + 1) (top - p) rfl rfl (by omega) (by omega) (by omega) _ _ (HCut (top - p + 1) (by omega) (by omega)) (cutHalf_le _ _ _ _) r hr (by omega) (by omega) _ HP' (by omega) (by omega) _ _ (HCut (top - p + 1) (by omega) (by omega)) (cutHalf_le _ _ _ _) r hr (by omega) (by omega)).mono ?_
            rintro x w' ⟨rfl, hg⟩
            exact ⟨_, _, ⟨top, top, r, r, _, htop, .inr ⟨by omega, rfl⟩, rfl, hr.symm, hr.symm, .inr (.inr ⟨by omega, hinf2, hz', .inr (.inr ⟨c, .inl (by omega), rfl⟩)⟩)⟩, by omega, by omega, rfl, hg⟩
        · have HP' := HPut ((r : Int) + Y) (by omega) (by omega)
          have hYw : IntKind.u64.wrap (one * (top - p + 1 - (mn - p + 1))) = Y := by
            rw [show top - p + 1 - (mn - p + 1) = top - mn by omega, hY, IntKind.wrap_u64]; omega
          rcases Nat.eq_zero_or_pos (cutHalf M e (top - p + 1) rest) with c | c
          · refine (l2Round_T0 HB HR b1 b2 hmnb.1 hmnb.2 b3 b4 (by omega) b6 (by omega) (by omega) (by omega) (nb M + e) top rfl (by omega) (by omega) (by omega) _ _ (HCut (top - p + 1) (by omega) (by omega)) (cutHalf_le _ _ _ _) r hr (by omega) (by omega) _ Y hYw (by omega) (by omega) HP' (by omega) (by omega)).mono ?_
            rintro x w' ⟨rfl, hg⟩
            exact ⟨_, _, ⟨top, top, r, r, _, htop, .inr ⟨by omega, rfl⟩, rfl, hr.symm, hr.symm, .inr (.inr ⟨by omega, hinf2, hz, .inl ⟨c, rfl⟩⟩)⟩, by omega, by omega, rfl, hg⟩
          · refine (l2Round_T1 HB HR b1 b2 hmnb.1 hmnb.2 b3 b4 (by omega) b6 (by omega) (by omega) (by omega) (nb M + e) top rfl (by omega) (top - p + 1) (top - p) rfl rfl (by omega) (by omega) (by omega) _ _ (HCut (top - p + 1) (by omega) (by omega)) (cutHalf_le _ _ _ _) r hr (by omega) (by omega) _ Y hYw (by omega) (by omega) HP' (by omega) (by omega) _ _ (HCut (top - p + 1) (by omega) (by omega)) (cutHalf_le _ _ _ _) r hr (by omega) (by omega)).mono ?_
            rintro x w' ⟨rfl, hg⟩
            exact ⟨_, _, ⟨top, top, r, r, _, htop, .inr ⟨by omega, rfl⟩, rfl, hr.symm, hr.symm, .inr (.inr ⟨by omega, hinf2, hz, .inr (.inr ⟨c, .inl (by omega), rfl⟩)⟩)⟩, by omega, by omega, rfl, hg⟩
end Go.Proofs.YtkflpogmhailhaaGreatDoor
