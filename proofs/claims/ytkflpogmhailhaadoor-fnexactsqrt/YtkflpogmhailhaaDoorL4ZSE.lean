/- impl.Sqrt and spec.Sqrt; both sides. -/
import Derived.Test.YtkflpogmhailhaaDoorL4ZS
import Derived.Test.YtkflpogmhailhaaDoorA2
set_option linter.unusedVariables false
set_option linter.unusedSimpArgs false
namespace Go.Proofs.YtkflpogmhailhaaDoor
open Go.RowKit

theorem implSqrt_any (f mode a : Int) (a0 : 0 ≤ a) (a1 : a < 18446744073709551616) (w : World) (hw : Fm w) :
    Calls Tryd.prog 16 #[.int .i64 f, .int .i64 mode, .int .u64 a] w fun e w' => ∃ Z fl, OpRD sqrtO f mode a a Z fl ∧ e = .returned (.agg #[.int .u64 Z, .int .i64 fl]) ∧ Gr w w' := by
  refine implSqrt_of f mode a (OpRD sqrtO f mode a a) (fun w' hg => ?_)
  have hw' := hw.gr hg
  by_cases hf : f = 0 ∨ f = 1
  · obtain ⟨p, mx, one, inf, sg, nan, hF⟩ := fmt_of f hf
    obtain ⟨mn, fb, sp, hM, hmn, hfb⟩ := hF.m
    by_cases hm : 0 ≤ mode ∧ mode ≤ 4
    · obtain ⟨k, hk⟩ := rule_of mode hm.1 hm.2
      obtain ⟨x, hx, HA⟩ := opd_is hF hM a a0 a1
      obtain ⟨v1, v2, v3, v4, v5, v6⟩ := opd_vo hF hx
      refine (calc_okf p mn mx mode f k 48 a a _ _ _ _ _ _ _ _ _ _ _ _ (fun w'' hg' => settingOf_yes hF hM mode k (fun w => ruleOf_yes mode k hk w) (hw'.gr hg')) HA HA (SameP p (sqrtO p mode x x)) (fun w => ?_) (PackD p mn mx one inf sg nan mode (sqrtO p mode x x)) (fun os oe oc oh ol ot of w hq => pack_anyD hM mode k hk _ os oe oc oh ol ot of hq w)).mono ?_
      · by_cases h3 : 3 ≤ x.c
        · refine (combine_nan p mn mx mode k _ _ _ _ _ _ _ _ _ _ _ _ 48 x.c (by omega) h3 w).mono ?_
          rintro e w' ⟨rfl, hg⟩
          rw [show sqrtO p mode x x = ⟨x.c, 0, 0, 0⟩ from by unfold sqrtO; rw [if_pos h3]]
          exact ⟨_, _, _, _, _, _, _, SameP.nan p _ h3 (by have := v1.c4; omega), rfl, hg⟩
        · exact combine_squareRoot p mn mx mode k _ _ _ _ _ _ _ _ _ _ _ _ x.c (by omega) (by omega) _ (fun w => squareRoot_any hF hM mode k hx (by omega) w) w
      · rintro e w'' ⟨Z, fl, hp, rfl, hg'⟩
        rw [hmn] at hp
        exact ⟨_, _, .inl ⟨p, mx, one, inf, sg, nan, x, x, hF, hm, hx, hx, hp⟩, rfl, hg'⟩
    · refine (calc_no p mn mx mode nan f mode a a (fun w'' hg' => settingOf_bad hF hM mode (fun w => ruleOf_no mode (by omega) w) (hw'.gr hg')) (fun w => invalid_any hM w) 48).mono ?_
      rintro e w'' ⟨rfl, hg'⟩
      exact ⟨_, _, .inr (.inl ⟨p, mx, one, inf, sg, nan, hF, by omega, rfl, rfl⟩), rfl, hg'⟩
  · refine (calc_no _ _ _ _ _ f mode a a (fun w'' hg' => settingOf_none f mode hf (hw'.gr hg')) (fun w => invalid_any m64 w) 48).mono ?_
    rintro e w'' ⟨rfl, hg'⟩
    exact ⟨_, _, .inr (.inr ⟨hf, rfl, rfl⟩), rfl, hg'⟩

theorem specSqrt_ok {f p mx one inf sg nan : Int} (h : IsFmt f p mx one inf sg nan) (mode a : Int) (hm : 0 ≤ mode ∧ mode ≤ 4) (a0 : 0 ≤ a) (a1 : a < 18446744073709551616) {x : Opd} (hx : OpdIs p mx one inf sg nan a x) (w : World) :
    Calls Tryd.prog 15 #[.int .i64 f, .int .i64 mode, .int .u64 a] w fun e w' => ∃ Z fl, PackD p (1 - mx) mx one inf sg nan mode (sqrtO p mode x x) Z fl ∧ e = .returned (.agg #[.int .u64 Z, .int .i64 fl]) ∧ Gb w w' := by
  obtain ⟨v1, v2, v3, v4, v5, v6⟩ := opd_vo h hx
  have xc0 := v1.c0
  have xc4 := v1.c4
  have s01 := v1.s01
  have hb := h.bounds
  by_cases hfit : a < 2 * sg
  · have HF : Hid (∀ w, Calls Tryd.prog 25 #[.int .i64 f, .int .i64 mode, .int .u64 a, .int .u64 a] w fun e w' => e = .returned (.bool true) ∧ w = w') := fun w => l3Fits_yes h mode a a hm.1 hm.2 a0 hfit a0 hfit w
    have HUa := unp_det h a a0 hfit hx
    have HQ : ∀ (t : Bool), t = decide (3 ≤ x.c) → Hid (∀ w, Calls Tryd.prog 28 #[.agg #[.int .i64 x.c, .int .i64 x.s, .int .i64 x.e, .int .u64 (((x.M : Nat) : Int))]] w fun e w' => e = .returned (.bool t) ∧ Gr w w') := fun t ht w => l3Quiet_any _ _ _ _ t ht w
    have HNan : ∀ t : Bool, Hid (∀ w, Calls Tryd.prog 29 #[.int .i64 f, .bool t] w fun e w' => e = .returned (.agg #[.int .u64 nan, .int .i64 (if t then 1 else 0)]) ∧ Gr w w') := fun t w => l3Nan_any h t _ rfl w
    unfold sqrtO
    by_cases c1 : 3 ≤ x.c
    · rw [if_pos c1]
      refine (sSqrt_nan f mode a _ _ _ _ HF HUa (HQ true (by simp [c1])) (decide (x.c = 4)) (bq _ _) nan _ (HNan _) w).mono ?_
      rintro e w' ⟨rfl, hg⟩
      exact ⟨_, _, .inl (nan_pack _ _ rfl (by omega) (by omega)), rfl, hg⟩
    · rw [if_neg c1]
      have hQa := HQ false (by simp; omega)
      by_cases cz : x.c = 0
      · rw [if_pos cz]
        refine (sSqrt_zero f mode a _ _ _ _ HF HUa hQa cz (sw x.s sg 0) 0 (fun w => l3Zero_any h _ s01 w) w).mono ?_
        rintro e w' ⟨rfl, hg⟩
        exact ⟨_, _, .inl (.inl ⟨rfl, rfl, rfl⟩), rfl, hg⟩
      · rw [if_neg cz]
        by_cases cs : x.s = 1
        · rw [if_pos cs]
          refine (sSqrt_neg f mode a _ _ _ _ HF HUa hQa (by simp [cz]) cs nan 1 (fun w => l2Bad_fmt h w) w).mono ?_
          rintro e w' ⟨rfl, hg⟩
          exact ⟨_, _, .inl (bad_nan rfl), rfl, hg⟩
        · rw [if_neg cs]
          have s0 : x.s = 0 := by rcases s01 with s | s; exact s; exact absurd s cs
          by_cases ci : x.c = 2
          · rw [if_pos ci]
            refine (sSqrt_inf f mode a _ _ _ _ HF HUa hQa ci s0 (sw 0 sg inf) 0 (fun w => l3Infinity_any h _ (.inl rfl) w) w).mono ?_
            rintro e w' ⟨rfl, hg⟩
            exact ⟨_, _, .inl (.inr (.inr (.inl ⟨rfl, rfl, rfl⟩))), rfl, hg⟩
          · rw [if_neg ci]
            have cx : x.c = 1 := by omega
            obtain ⟨Pn, hP, hP1, hP53, hA, hA2⟩ := opd_fin h hx cx
            obtain ⟨od, hod⟩ : ∃ od : Nat, (x.e + (p - 1)) % 2 = (od : Int) := ⟨((x.e + (p - 1)) % 2).toNat, by omega⟩
            obtain ⟨C, st, hC, hst, r1, r2, r3, r4, r5, r6, r7⟩ := root_round hP hP1 hP53 hA hA2 x.e _ _ od rfl hod rfl
            obtain ⟨Pl, hPl⟩ : ∃ Pl, Pl = sqPl p x.e := ⟨_, rfl⟩
            have hPl2 : Pl = sqPl p x.e := hPl
            rw [← hPl] at r4 r5 r7 ⊢
            have hpar : Pl = Pn + 8 ∧ (x.e - (p + 8)) % 2 = 0 ∨ Pl = Pn + 9 ∧ (x.e - (p + 8)) % 2 = 1 := by
              rw [hPl]; unfold sqPl
              by_cases c : (x.e - (p + 8)) % 2 = 0
              · rw [if_pos c]; exact .inl ⟨by omega, c⟩
              · rw [if_neg c]; exact .inr ⟨by omega, by omega⟩
            clear hPl hPl2 r6
            have HRt : Hid (∀ v w, BigN 8 w v (x.M * 2 ^ Pl) → Calls Tryd.prog 46 #[v] w fun e w' => ∃ b k c, BigN 8 w' (.slice (some ⟨b, 0, none⟩) k c) (rootN (x.M * 2 ^ Pl)) ∧ e = .returned (.slice (some ⟨b, 0, none⟩) k c) ∧ Gb w w') := fun v w ⟨n, n1, n2⟩ => by
              refine (l4Root_any n2 (by omega)).mono ?_
              rintro e w' ⟨r, k, R, rfl, hb, hk, hr, hg⟩
              obtain ⟨b, c, rfl, _⟩ := Big.shape hb
              rw [← hr.one (rootN_is _)]
              exact ⟨b, k, c, ⟨k, by omega, hb⟩, rfl, hg⟩
            obtain ⟨z0, hz0⟩ : ∃ z0, z0 = cmpZ (rootN (x.M * 2 ^ Pl) * rootN (x.M * 2 ^ Pl)) (x.M * 2 ^ Pl) := ⟨_, rfl⟩
            have HCm : Hid (∀ v v' w, BigN 16 w v (rootN (x.M * 2 ^ Pl) * rootN (x.M * 2 ^ Pl)) → BigN 8 w v' (x.M * 2 ^ Pl) → Calls Tryd.prog 33 #[v, v'] w fun e w' => e = .returned (.int .i64 z0) ∧ Gb w w') := fun v v' w ⟨n, n1, n2⟩ ⟨n', n1', n2'⟩ => by
              rw [hz0]; exact l2Cmp_any n2 (by omega) n2' (by omega)
            have hzr : (z0 != 0) = decide (rootN (x.M * 2 ^ Pl) * rootN (x.M * 2 ^ Pl) ≠ x.M * 2 ^ Pl) := by
              rw [hz0]; unfold cmpZ
              by_cases c : rootN (x.M * 2 ^ Pl) * rootN (x.M * 2 ^ Pl) = x.M * 2 ^ Pl
              · rw [if_neg (by omega), if_neg (by omega)]; simp [c]
              · by_cases c2 : rootN (x.M * 2 ^ Pl) * rootN (x.M * 2 ^ Pl) < x.M * 2 ^ Pl
                · rw [if_pos c2]; simp [c]
                · rw [if_neg c2, if_pos (by omega)]; simp [c]
            have HR : ∀ q : Int, q = (x.e - Pl) / 2 → Hid (∀ v w, BigN 8 w v (rootN (x.M * 2 ^ Pl)) → Calls Tryd.prog 37 #[.int .i64 f, .int .i64 mode, .agg #[.int .i64 0, v, .int .i64 q, .bool (decide (rootN (x.M * 2 ^ Pl) * rootN (x.M * 2 ^ Pl) ≠ x.M * 2 ^ Pl))]] w fun e w' => ∃ z fl, PackD p (1 - mx) mx one inf sg nan mode ⟨1, 0, (x.e - Pl) / 2 - 1, sqM Pl x.M⟩ z fl ∧ e = .returned (.agg #[.int .u64 z, .int .i64 fl]) ∧ Gb w w') := fun q hq v w hB => by
              rw [hq]
              exact round_atD h mode hm.1 hm.2 ⟨1, 0, (x.e - Pl) / 2 - 1, sqM Pl x.M⟩ rfl (.inl rfl) _ r4 ((x.e - Pl) / 2) (by omega) (by omega) _ r5 (fun mn mx one inf mode z fl => r7 _ _ _ _ _ _ _ _) 8 (by omega) v w hB
            obtain ⟨q, hq⟩ : ∃ q : Int, q = (x.e - Pl) / 2 := ⟨_, rfl⟩
            have hd2 : x.e - (Pl : Int) = 2 * q := by omega
            have hqd : (x.e - (Pl : Int)).tdiv 2 = q := by rw [hd2]; exact Int.mul_tdiv_cancel_left q (by decide)
            have hqw : wrap64 q = q := by unfold wrap64; omega
            rcases hpar with ⟨e1, e2⟩ | ⟨e1, e2⟩
            · have ht : (x.e - (Pl : Int)).tmod 2 = 0 := by rw [hd2]; exact Int.mul_tmod_right 2 q
              exact sSqrt_even f mode a _ _ _ _ HF HUa hQa cx s0 x.M rfl (by omega) (by omega) (by omega) p (by omega) (by omega) (fun w => l2P_any h w) Pl _ q 0 (by omega) (by omega) rfl ht (by decide) hqd hqw _ z0 hzr _ HRt HCm _ (HR q hq) w
            · obtain ⟨r0, hr0⟩ : ∃ r0, r0 = (x.e - (p + 8)).tmod 2 := ⟨_, rfl⟩
              have hne : (r0 != 0) = true := by
                have : r0 ≠ 0 := by
                  intro c
                  rw [hr0] at c
                  have := Int.emod_emod_of_dvd (x.e - (p + 8)) (Int.dvd_refl 2)
                  have := Int.emod_eq_zero_of_dvd (Int.dvd_of_tmod_eq_zero c)
                  omega
                simp [this]
              exact sSqrt_odd f mode a _ _ _ _ HF HUa hQa cx s0 x.M rfl (by omega) (by omega) (by omega) p (by omega) (by omega) (fun w => l2P_any h w) Pl (p + 8) (x.e - (p + 8)) _ q r0 rfl rfl hr0.symm hne (by omega) (by omega) rfl hqd hqw _ z0 hzr _ HRt HCm _ (HR q hq) w
  · refine (sSqrt_bad f mode a (fun w => l3Fits_no f mode a a a0 a1 a0 a1 (nofit_of h a1 a1 (by omega)) w) nan 1 (fun w => l2Bad_fmt h w) w).mono ?_
    rintro e w' ⟨rfl, hg⟩
    have := opd_wide h hx (by omega)
    subst this
    exact ⟨_, _, .inl (bad_nan rfl), rfl, hg⟩

theorem specSqrt_any (f mode a : Int) (a0 : 0 ≤ a) (a1 : a < 18446744073709551616) (w : World) :
    Calls Tryd.prog 15 #[.int .i64 f, .int .i64 mode, .int .u64 a] w fun e w' => ∃ Z fl, OpRD sqrtO f mode a a Z fl ∧ e = .returned (.agg #[.int .u64 Z, .int .i64 fl]) ∧ Gb w w' := by
  by_cases hf : f = 0 ∨ f = 1
  · obtain ⟨p, mx, one, inf, sg, nan, hF⟩ := fmt_of f hf
    by_cases hm : 0 ≤ mode ∧ mode ≤ 4
    · obtain ⟨x, hx⟩ := opd_ex hF a a0 a1
      refine (specSqrt_ok hF mode a hm a0 a1 hx w).mono ?_
      rintro e w' ⟨Z, fl, hp, rfl, hg⟩
      exact ⟨_, _, .inl ⟨p, mx, one, inf, sg, nan, x, x, hF, hm, hx, hx, hp⟩, rfl, hg⟩
    · refine (sSqrt_bad f mode a (fun w => l3Fits_no f mode a a a0 a1 a0 a1 (.inl (by omega)) w) nan 1 (fun w => l2Bad_fmt hF w) w).mono ?_
      rintro e w' ⟨rfl, hg⟩
      exact ⟨_, _, .inr (.inl ⟨p, mx, one, inf, sg, nan, hF, by omega, rfl, rfl⟩), rfl, hg⟩
  · refine (sSqrt_bad f mode a (fun w => l3Fits_no f mode a a a0 a1 a0 a1 (.inr (.inl hf)) w) _ 1 (fun w => l2Bad_no f hf w) w).mono ?_
    rintro e w' ⟨rfl, hg⟩
    exact ⟨_, _, .inr (.inr ⟨hf, rfl, rfl⟩), rfl, hg⟩

theorem sqrt_same (f mode a : Int) (a0 : 0 ≤ a) (a1 : a < 18446744073709551616) :
    ∃ Z fl : Int, OpRD sqrtO f mode a a Z fl ∧ (∀ w, Calls Tryd.prog 15 #[.int .i64 f, .int .i64 mode, .int .u64 a] w fun e w' => e = .returned (.agg #[.int .u64 Z, .int .i64 fl]) ∧ Gb w w') ∧
      (∀ w, Fm w → Calls Tryd.prog 16 #[.int .i64 f, .int .i64 mode, .int .u64 a] w fun e w' => e = .returned (.agg #[.int .u64 Z, .int .i64 fl]) ∧ Gr w w') :=
  both_ofD sqrtO 15 16 _ sqrtO_c f mode a a a0 a1 a0 a1 (specSqrt_any f mode a a0 a1) (implSqrt_any f mode a a0 a1)
end Go.Proofs.YtkflpogmhailhaaDoor

/- Sqrt: the law. -/
set_option linter.unusedVariables false
set_option linter.unusedSimpArgs false
namespace Go.Proofs.YtkflpogmhailhaaDoor
open Go.RowKit

set_option maxRecDepth 100000 in
set_option maxHeartbeats 2000000 in
theorem lawSqrt (f mode a : Int) (f0 : -9223372036854775808 ≤ f) (f1 : f < 9223372036854775808) (m0 : -9223372036854775808 ≤ mode) (m1 : mode < 9223372036854775808) (a0 : 0 ≤ a) (a1 : a < 18446744073709551616) {w : World} (hw : Fm w) :
    Calls Tryd.prog 5 #[.int .i64 f, .int .i64 mode, .int .u64 a] w fun e w' => e = .returned (.bool true) ∧ Gb w w' := by
  obtain ⟨Z, fl, _, HA, HB⟩ := sqrt_same f mode a a0 a1
  have HS : Hid (∀ w, Calls Tryd.prog 15 #[.int .i64 f, .int .i64 mode, .int .u64 a] w fun x w' => x = .returned (.agg #[.int .u64 Z, .int .i64 fl]) ∧ Gb w w') := HA
  have HI : Hid (∀ w', Gb w w' → Calls Tryd.prog 16 #[.int .i64 f, .int .i64 mode, .int .u64 a] w' fun x w'' => x = .returned (.agg #[.int .u64 Z, .int .i64 fl]) ∧ Gr w' w'') := fun w' hg => HB w' (hw.gb hg)
  clear HA HB hw
  go_enter Tryd.func5, Tryd.ntmps5
  go_wp2_with (first
    | (go_at_call 15; refine (HS.out _).mono ?_; rintro x w2 ⟨rfl, hg_w2⟩)
    | (go_at_call 16; refine (HI.out _ Gb.g).mono ?_; rintro x w3 ⟨rfl, hg_w3⟩; have r0 : w3.cell? ⟨w2.heap.size, 0, none⟩ = some (.int .u64 Z) := hg_w3.c; have rA0 := (fun ob => cell_alloc ob r0); have r1 : w3.cell? ⟨w2.heap.size, 1, none⟩ = some (.int .i64 fl) := hg_w3.c; have rA1 := (fun ob => cell_alloc ob r1))
    | (go_at_call 12; refine (eqResult_same Z fl _).mono ?_; rintro x w4 ⟨rfl, hg_w4⟩))
  go_returns
  exact ⟨rfl, Gb.g⟩
end Go.Proofs.YtkflpogmhailhaaDoor
