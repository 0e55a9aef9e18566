/- impl.Rem and spec.Rem; both sides. -/
import Derived.Test.YtkflpogmhailhaaDoorE2
import Derived.Test.YtkflpogmhailhaaDoorE3
import Derived.Test.YtkflpogmhailhaaDoorL4WRH
import Derived.Test.YtkflpogmhailhaaDoorL4WRL
import Derived.Test.YtkflpogmhailhaaDoorA2
import Derived.Test.YtkflpogmhailhaaDoorLaid
import Derived.Test.YtkflpogmhailhaaDoorCards
import Derived.Test.YtkflpogmhailhaaDoorTie
import Derived.WalkKit
import Derived.ProofKit
import Derived.OpenShut
import Derived.Lib.SmallJoins
import Derived.LaidMore
import Derived.Stop.Joined
import Derived.SevenTiedAt
set_option linter.unusedVariables false
set_option linter.unusedSimpArgs false
namespace Go.Proofs.YtkflpogmhailhaaDoor
open Go.RowKit

theorem implRem_any (f a b : Int) (a0 : 0 ≤ a) (a1 : a < 18446744073709551616) (b0 : 0 ≤ b) (b1 : b < 18446744073709551616) (w : World) (hw : Fm w) :
    Calls Tryd.prog 11 #[.int .i64 f, .int .u64 a, .int .u64 b] w fun e w' => ∃ Z fl, OpRD remO f 0 a b Z fl ∧ e = .returned (.agg #[.int .u64 Z, .int .i64 fl]) ∧ Gr w w' := by
  refine implRem_of f a b (OpRD remO f 0 a b) (fun w' hg => ?_)
  have hw' := hw.gr hg
  have hm : (0 : Int) ≤ 0 ∧ (0 : Int) ≤ 4 := ⟨by omega, by omega⟩
  by_cases hf : f = 0 ∨ f = 1
  · obtain ⟨p, mx, one, inf, sg, nan, hF⟩ := fmt_of f hf
    obtain ⟨mn, fb, sp, hM, hmn, hfb⟩ := hF.m
    obtain ⟨k, hk⟩ := rule_of 0 hm.1 hm.2
    obtain ⟨x, hx, HA⟩ := opd_is hF hM a a0 a1
    obtain ⟨y, hy, HB⟩ := opd_is hF hM b b0 b1
    obtain ⟨v1, v2, v3, v4, v5, v6⟩ := opd_vo hF hx
    obtain ⟨u1, u2, u3, u4, u5, u6⟩ := opd_vo hF hy
    refine (calc_okf p mn mx 0 f k 39 a b _ _ _ _ _ _ _ _ _ _ _ _ (fun w'' hg' => settingOf_yes hF hM 0 k (fun w => ruleOf_yes 0 k hk w) (hw'.gr hg')) HA HB (SameP p (remO p 0 x y)) (fun w => ?_) (PackD p mn mx one inf sg nan 0 (remO p 0 x y)) (fun os oe oc oh ol ot of w hq => pack_anyD hM 0 k hk _ os oe oc oh ol ot of hq w)).mono ?_
    · by_cases h3 : 3 ≤ max x.c y.c
      · refine (combine_nan p mn mx 0 k _ _ _ _ _ _ _ _ _ _ _ _ 39 _ rfl h3 w).mono ?_
        rintro e w' ⟨rfl, hg⟩
        rw [remO_nan p 0 x y h3]
        exact ⟨_, _, _, _, _, _, _, SameP.nan p _ h3 (by have := v1.c4; have := u1.c4; omega), rfl, hg⟩
      · exact combine_remainder p mn mx 0 k _ _ _ _ _ _ _ _ _ _ _ _ _ rfl (by omega) _ (fun w => remainder_any hF mn 0 k hx hy (by omega) w) w
    · rintro e w'' ⟨Z, fl, hp, rfl, hg'⟩
      rw [hmn] at hp
      exact ⟨_, _, .inl ⟨p, mx, one, inf, sg, nan, x, y, hF, hm, hx, hy, hp⟩, rfl, hg'⟩
  · refine (calc_no _ _ _ _ _ f 0 a b (fun w'' hg' => settingOf_none f 0 hf (hw'.gr hg')) (fun w => invalid_any m64 w) 39).mono ?_
    rintro e w'' ⟨rfl, hg'⟩
    exact ⟨_, _, .inr (.inr ⟨hf, rfl, rfl⟩), rfl, hg'⟩

/-- A number's own word is what packing it gives. -/
theorem pack_self {f p mx one inf sg nan a mode : Int} (h : IsFmt f p mx one inf sg nan) (ha : a < 2 * sg) {x : Opd} (hx : OpdIs p mx one inf sg nan a x) (hc : x.c ≤ 1) : PackIs p (1 - mx) mx one inf sg nan mode x a 0 := by
  rcases hx with ⟨_, v, hs, hv⟩ | ⟨c, _⟩
  · have hsw : ∀ z : Int, z = v → a = sw x.s sg z := fun z hz => by
      rcases hs with ⟨h1, h2, h3⟩ | ⟨h1, h2, h3⟩
      · rw [h1, hz, h2]; simp [sw]
      · rw [h1, hz, h2]; simp [sw]
    rcases hv with ⟨e0, c0, _, _⟩ | ⟨_, _, c0, _⟩ | ⟨_, c0, _⟩ | ⟨_, c0, _⟩ | ⟨v0, v1, c0, hn⟩
    · exact .inl ⟨c0, hsw 0 e0.symm, rfl⟩
    · exfalso; omega
    · exfalso; omega
    · exfalso; omega
    · obtain ⟨_, _, _, _, hr⟩ := back_is h mode x.s v x.e (x.M : Int) v0 v1 hn
      rw [Int.toNat_natCast] at hr
      exact .inr (.inl ⟨c0, v, hr, hsw v rfl⟩)
  · exfalso; omega

set_option maxRecDepth 100000 in
theorem specRem_ok {f p mx one inf sg nan : Int} (h : IsFmt f p mx one inf sg nan) (a b : Int) (a0 : 0 ≤ a) (a1 : a < 18446744073709551616) (b0 : 0 ≤ b) (b1 : b < 18446744073709551616) {x y : Opd} (hx : OpdIs p mx one inf sg nan a x) (hy : OpdIs p mx one inf sg nan b y) (w : World) :
    Calls Tryd.prog 10 #[.int .i64 f, .int .u64 a, .int .u64 b] w fun e w' => ∃ Z fl, PackD p (1 - mx) mx one inf sg nan 0 (remO p 0 x y) Z fl ∧ e = .returned (.agg #[.int .u64 Z, .int .i64 fl]) ∧ Gb w w' := by
  obtain ⟨v1, v2, v3, v4, v5, v6⟩ := opd_vo h hx
  obtain ⟨u1, u2, u3, u4, u5, u6⟩ := opd_vo h hy
  have xc0 := v1.c0
  have xc4 := v1.c4
  have yc0 := u1.c0
  have yc4 := u1.c4
  have hb := h.bounds
  have sa0 : 0 ≤ x.s := by have := v1.s01; omega
  have sa1 : x.s ≤ 1 := by have := v1.s01; omega
  by_cases hfit : a < 2 * sg ∧ b < 2 * sg
  · obtain ⟨fa, fb'⟩ := hfit
    have HF : Hid (∀ w, Calls Tryd.prog 25 #[.int .i64 f, .int .i64 0, .int .u64 a, .int .u64 b] w fun e w' => e = .returned (.bool true) ∧ w = w') := fun w => l3Fits_yes h 0 a b (by omega) (by omega) a0 fa b0 fb' w
    have HUa := unp_det h a a0 fa hx
    have HUb := unp_det h b b0 fb' hy
    have HQ : ∀ (z : Opd) (t : Bool), t = decide (3 ≤ z.c) → Hid (∀ w, Calls Tryd.prog 28 #[.agg #[.int .i64 z.c, .int .i64 z.s, .int .i64 z.e, .int .u64 (((z.M : Nat) : Int))]] w fun e w' => e = .returned (.bool t) ∧ Gr w w') := fun z t ht w => l3Quiet_any _ _ _ _ t ht w
    have HNan : ∀ t : Bool, Hid (∀ w, Calls Tryd.prog 29 #[.int .i64 f, .bool t] w fun e w' => e = .returned (.agg #[.int .u64 nan, .int .i64 (if t then 1 else 0)]) ∧ Gr w w') := fun t w => l3Nan_any h t _ rfl w
    by_cases c1 : 3 ≤ x.c
    · rw [remO_nan p 0 x y (by omega)]
      by_cases c2 : x.c = 4
      · refine (sRem_nan1 f a b _ _ _ _ _ _ _ _ HF HUa HUb (HQ x true (by simp [c1])) (by simp [c2]) nan _ (HNan true) w).mono ?_
        rintro e w' ⟨rfl, hg⟩
        exact ⟨_, _, .inl (nan_pack _ true (by simp; omega) (by omega) (by omega)), rfl, hg⟩
      · refine (sRem_nan2 f a b _ _ _ _ _ _ _ _ HF HUa HUb (HQ x true (by simp [c1])) (by simp [c2]) (decide (y.c = 4)) (bq _ _) nan _ (HNan _) w).mono ?_
        rintro e w' ⟨rfl, hg⟩
        exact ⟨_, _, .inl (nan_pack _ _ (by rw [decide_eq_decide]; omega) (by omega) (by omega)), rfl, hg⟩
    · by_cases c2 : 3 ≤ y.c
      · rw [remO_nan p 0 x y (by omega)]
        refine (sRem_nan3 f a b _ _ _ _ _ _ _ _ HF HUa HUb (HQ x false (by simp; omega)) (HQ y true (by simp [c2])) (by simp; omega) (decide (y.c = 4)) (bq _ _) nan _ (HNan _) w).mono ?_
        rintro e w' ⟨rfl, hg⟩
        exact ⟨_, _, .inl (nan_pack _ _ (by rw [decide_eq_decide]; omega) (by omega) (by omega)), rfl, hg⟩
      · have hQa := HQ x false (by simp; omega)
        have hQb := HQ y false (by simp; omega)
        unfold remO
        rw [if_neg (show ¬ 3 ≤ max x.c y.c by omega)]
        by_cases cx2 : x.c = 2
        · rw [if_pos (.inl cx2)]
          refine (sRem_badx f a b _ _ _ _ _ _ _ _ HF HUa HUb hQa hQb cx2 nan 1 (fun w => l2Bad_fmt h w) w).mono ?_
          rintro e w' ⟨rfl, hg⟩
          exact ⟨_, _, .inl (bad_nan rfl), rfl, hg⟩
        · by_cases cy0 : y.c = 0
          · rw [if_pos (.inr cy0)]
            refine (sRem_bady f a b _ _ _ _ _ _ _ _ HF HUa HUb hQa hQb (by simp [cx2]) cy0 nan 1 (fun w => l2Bad_fmt h w) w).mono ?_
            rintro e w' ⟨rfl, hg⟩
            exact ⟨_, _, .inl (bad_nan rfl), rfl, hg⟩
          · rw [if_neg (show ¬ (x.c = 2 ∨ y.c = 0) by omega)]
            by_cases cx0 : x.c = 0
            · rw [if_pos (.inl cx0)]
              refine (sRem_zero f a b _ _ _ _ _ _ _ _ HF HUa HUb hQa hQb cx0 (by simp [cy0]) w).mono ?_
              rintro e w' ⟨rfl, hg⟩
              exact ⟨_, _, .inl (pack_self h fa hx (by omega)), rfl, hg⟩
            · have cx : x.c = 1 := by omega
              by_cases cy2 : y.c = 2
              · rw [if_pos (.inr cy2)]
                refine (sRem_inf f a b _ _ _ _ _ _ _ _ HF HUa HUb hQa hQb cx cy2 w).mono ?_
                rintro e w' ⟨rfl, hg⟩
                exact ⟨_, _, .inl (pack_self h fa hx (by omega)), rfl, hg⟩
              · have cy : y.c = 1 := by omega
                rw [if_neg (show ¬ (x.c = 0 ∨ y.c = 2) by omega)]
                have hB0 : 0 < y.M := (u1.fin cy).1
                have hd0 : 0 < remD x y := Nat.mul_pos hB0 (Nat.pow_pos (by decide))
                have HZ : ∀ (w : World), remM (remX x y) (remD x y) = 0 → Calls Tryd.prog 36 #[.int .i64 f, .int .i64 x.s] w fun e w' => ∃ z fl, PackD p (1 - mx) mx one inf sg nan 0 (if remM (remX x y) (remD x y) = 0 then (⟨0, x.s, 0, 0⟩ : Opd) else ⟨1, if remUp (remX x y) (remD x y) then 1 - x.s else x.s, min x.e y.e, remM (remX x y) (remD x y)⟩) z fl ∧ e = .returned (.agg #[.int .u64 z, .int .i64 fl]) ∧ Gr w w' := fun w hz => by
                  rw [if_pos hz]
                  refine (l3Zero_any h _ v1.s01 w).mono ?_
                  rintro e w' ⟨rfl, hg⟩
                  exact ⟨_, _, .inl (.inl ⟨rfl, rfl, rfl⟩), rfl, hg⟩
                have HR : ∀ (e : Int), e = min x.e y.e → ∀ (v : Value) (w : World), 0 < remM (remX x y) (remD x y) → BigN 1000 w v (remM (remX x y) (remD x y)) → Calls Tryd.prog 37 #[.int .i64 f, .int .i64 0, .agg #[.int .i64 (if remUp (remX x y) (remD x y) then 1 - x.s else x.s), v, .int .i64 e, .bool false]] w fun e w' => ∃ z fl, PackD p (1 - mx) mx one inf sg nan 0 (if remM (remX x y) (remD x y) = 0 then (⟨0, x.s, 0, 0⟩ : Opd) else ⟨1, if remUp (remX x y) (remD x y) then 1 - x.s else x.s, min x.e y.e, remM (remX x y) (remD x y)⟩) z fl ∧ e = .returned (.agg #[.int .u64 z, .int .i64 fl]) ∧ Gb w w' := fun e he v w hpos hB => by
                  rw [if_neg (show ¬ remM (remX x y) (remD x y) = 0 by omega), he]
                  refine (round_at h 0 (by omega) (by omega) ⟨1, if remUp (remX x y) (remD x y) then 1 - x.s else x.s, min x.e y.e, remM (remX x y) (remD x y)⟩ rfl (by dsimp only; split <;> omega) hpos (by dsimp only; omega) (by dsimp only; omega) 1000 (by omega) v w hB).mono ?_
                  rintro e w' ⟨z, fl, hp, he, hg⟩
                  exact ⟨z, fl, .inl hp, he, hg⟩
                by_cases hlt : y.e < x.e
                · exact sRem_num_hi f a b _ _ _ _ _ _ _ _ HF HUa HUb hQa hQb cx cy x.M y.M rfl rfl (by omega) (by omega) (by omega) (by omega) (by omega) (by omega) sa0 sa1 hlt (x.e - y.e).toNat (by rw [IntKind.wrap_i64]; omega) (by omega) (remX x y) (remD x y) (by unfold remX; rw [show min x.e y.e = y.e by omega]) (by unfold remD; rw [show (y.e - min x.e y.e).toNat = 0 by omega]) hd0 _ (HR y.e (by omega)) HZ w
                · exact sRem_num_lo f a b _ _ _ _ _ _ _ _ HF HUa HUb hQa hQb cx cy x.M y.M rfl rfl (by omega) (by omega) (by omega) (by omega) (by omega) (by omega) sa0 sa1 hlt (y.e - x.e).toNat (by rw [IntKind.wrap_i64]; omega) (by omega) (remX x y) (remD x y) (by unfold remX; rw [show (x.e - min x.e y.e).toNat = 0 by omega]) (by unfold remD; rw [show min x.e y.e = x.e by omega]) hd0 _ (HR x.e (by omega)) HZ w
  · refine (sRem_bad f a b (fun w => l3Fits_no f 0 a b a0 a1 b0 b1 (nofit_of h a1 b1 (by omega)) w) nan 1 (fun w => l2Bad_fmt h w) w).mono ?_
    rintro e w' ⟨rfl, hg⟩
    refine ⟨_, _, ?_, rfl, hg⟩
    have : max x.c y.c = 4 := by
      rcases (show 2 * sg ≤ a ∨ 2 * sg ≤ b by omega) with c | c
      · have := opd_wide h hx c; subst this; dsimp only at *; omega
      · have := opd_wide h hy c; subst this; dsimp only at *; omega
    rw [remO_nan p 0 x y (by omega)]
    exact .inl (bad_nan this)

theorem specRem_any (f a b : Int) (a0 : 0 ≤ a) (a1 : a < 18446744073709551616) (b0 : 0 ≤ b) (b1 : b < 18446744073709551616) (w : World) :
    Calls Tryd.prog 10 #[.int .i64 f, .int .u64 a, .int .u64 b] w fun e w' => ∃ Z fl, OpRD remO f 0 a b Z fl ∧ e = .returned (.agg #[.int .u64 Z, .int .i64 fl]) ∧ Gb w w' := by
  by_cases hf : f = 0 ∨ f = 1
  · obtain ⟨p, mx, one, inf, sg, nan, hF⟩ := fmt_of f hf
    obtain ⟨x, hx⟩ := opd_ex hF a a0 a1
    obtain ⟨y, hy⟩ := opd_ex hF b b0 b1
    refine (specRem_ok hF a b a0 a1 b0 b1 hx hy w).mono ?_
    rintro e w' ⟨Z, fl, hp, rfl, hg⟩
    exact ⟨_, _, .inl ⟨p, mx, one, inf, sg, nan, x, y, hF, ⟨by omega, by omega⟩, hx, hy, hp⟩, rfl, hg⟩
  · refine (sRem_bad f a b (fun w => l3Fits_no f 0 a b a0 a1 b0 b1 (.inr (.inl hf)) w) _ 1 (fun w => l2Bad_no f hf w) w).mono ?_
    rintro e w' ⟨rfl, hg⟩
    exact ⟨_, _, .inr (.inr ⟨hf, rfl, rfl⟩), rfl, hg⟩

theorem rem_same (f a b : Int) (a0 : 0 ≤ a) (a1 : a < 18446744073709551616) (b0 : 0 ≤ b) (b1 : b < 18446744073709551616) :
    ∃ Z fl : Int, OpRD remO f 0 a b Z fl ∧ (∀ w, Calls Tryd.prog 10 #[.int .i64 f, .int .u64 a, .int .u64 b] w fun e w' => e = .returned (.agg #[.int .u64 Z, .int .i64 fl]) ∧ Gb w w') ∧
      (∀ w, Fm w → Calls Tryd.prog 11 #[.int .i64 f, .int .u64 a, .int .u64 b] w fun e w' => e = .returned (.agg #[.int .u64 Z, .int .i64 fl]) ∧ Gr w w') :=
  both_ofD remO 10 11 _ remO_c f 0 a b a0 a1 b0 b1 (specRem_any f a b a0 a1 b0 b1) (implRem_any f a b a0 a1 b0 b1)

end Go.Proofs.YtkflpogmhailhaaDoor

/- The law over L4ZRE. -/
set_option linter.unusedVariables false
set_option linter.unusedSimpArgs false
namespace Go.Proofs.YtkflpogmhailhaaDoor
open Go.RowKit

set_option maxRecDepth 100000 in
set_option maxHeartbeats 2000000 in
theorem lawRem (f a b : Int) (f0 : -9223372036854775808 ≤ f) (f1 : f < 9223372036854775808) (a0 : 0 ≤ a) (a1 : a < 18446744073709551616) (b0 : 0 ≤ b) (b1 : b < 18446744073709551616) {w : World} (hw : Fm w) :
    Calls Tryd.prog 3 #[.int .i64 f, .int .u64 a, .int .u64 b] w fun e w' => e = .returned (.bool true) ∧ Gb w w' := by
  obtain ⟨Z, fl, _, HA, HB⟩ := rem_same f a b a0 a1 b0 b1
  have HS : Hid (∀ w, Calls Tryd.prog 10 #[.int .i64 f, .int .u64 a, .int .u64 b] w fun x w' => x = .returned (.agg #[.int .u64 Z, .int .i64 fl]) ∧ Gb w w') := HA
  have HI : Hid (∀ w', Gb w w' → Calls Tryd.prog 11 #[.int .i64 f, .int .u64 a, .int .u64 b] w' fun x w'' => x = .returned (.agg #[.int .u64 Z, .int .i64 fl]) ∧ Gr w' w'') := fun w' hg => HB w' (hw.gb hg)
  clear HA HB hw
  go_enter Tryd.func3, Tryd.ntmps3
  go_wp2_with (first
    | (go_at_call 10; refine (HS.out _).mono ?_; rintro x w2 ⟨rfl, hg_w2⟩)
    | (go_at_call 11; refine (HI.out _ Gb.g).mono ?_; rintro x w3 ⟨rfl, hg_w3⟩; have r0 : w3.cell? ⟨w2.heap.size, 0, none⟩ = some (.int .u64 Z) := hg_w3.c; have rA0 := (fun ob => cell_alloc ob r0); have r1 : w3.cell? ⟨w2.heap.size, 1, none⟩ = some (.int .i64 fl) := hg_w3.c; have rA1 := (fun ob => cell_alloc ob r1))
    | (go_at_call 12; refine (eqResult_same Z fl _).mono ?_; rintro x w4 ⟨rfl, hg_w4⟩))
  go_returns
  exact ⟨rfl, Gb.g⟩
end Go.Proofs.YtkflpogmhailhaaDoor

/- The frame of the proof of FnExactRem; the walk: lawRem. -/
namespace Go.Proofs.YtkflpogmhailhaaDoor.fnExactRem
open Go.ChangeShapes Go.WideShapes Go.ChangeAt Go.RowKit Go.Joins
set_option linter.unusedVariables false
set_option maxRecDepth 100000 in
theorem lifted (os : Os) (started : os.Started) (H : Type) (enc : TypeId × Value → H) :
    ReturnsInHanded {} Tryd.checked os 3 .any (fun w args => (Rows.fnExactRemSpec.pre enc Tryd.prog Tryd.f3 [] false w args ∧ laidMetH Tryd.prog laidF w) ∧ sizedMet enc Tryd.prog Tryd.f3 (OpenSpec.ofChange Rows.fnExactRemSpec) false w args)
      (Rows.fnExactRemSpec.post enc Tryd.prog Tryd.f3 false true false false) := by
  refine returnsInHanded_of_change_and (C := Tryd.checked) (X := fun w _ => laidMetH Tryd.prog laidF w) (fun _ _ _ hh h => h.of_heap hh) ownF started (by kernel_rfl) Tryd.func3
    (ChangeSpec.witness_shaped (enc := enc) (C := Tryd.checked) (os := os) (X := fun w _ => laidMetH Tryd.prog laidF w) false (World.doorLaid Tryd.prog 16 os) #[.int .i64 0, .int .u64 0, .int .u64 0] 8 rfl (World.shaped_of_RefB (by kernel_rfl) (by kernel_rfl)) (by kernel_rfl) (by kernel_rfl) (by kernel_rfl) (door_met os _)) ?_
  intro W base args ds gs before hval0 hW _ _ hL _
  have hval : ∀ (j : Nat) t v, Tryd.f3.params[j]? = some t → args[j]? = some v → Value.okWide Tryd.prog W .any base t v := hval0
  have hW' := hW
  obtain ⟨p, q, hA0, hV0, rfl, hfz, hnd⟩ := hW
  have hA : DataW.TrodAll enc Tryd.prog W 0 (fun _ => true) true Tryd.f3.params.toList args.toList ds p := hA0
  have hV : DataW.TrodVars enc Tryd.prog W (fun _ => true) ["loop.example/s01330/impl.formats"] gs q := hV0
  rw [Tryd.params3] at hA hval
  obtain ⟨v0, vs0, d0, ds0, p0, q0, hargs, rfl, rfl, h0, r0⟩ := trodAll_cons hA
  obtain ⟨v1, vs1, d1, ds1, p1, q1, rfl, rfl, rfl, h1, r1⟩ := trodAll_cons r0
  obtain ⟨v2, vs2, d2, ds2, p2, q2, rfl, rfl, rfl, h2, r2⟩ := trodAll_cons r1
  obtain ⟨rfl, rfl, rfl⟩ := trodAll_nil r2
  obtain rfl : args = #[v0, v1, v2] := by cases args; simp_all
  obtain rfl := vars_opened hL hV
  obtain ⟨a0, rfl, rfl, rfl, w0⟩ := open_int Tryd.underlying3 (hval 0 3 v0 rfl rfl) h0
  have b0 := bounds_i64 w0
  obtain ⟨a1, rfl, rfl, rfl, w1⟩ := open_int Tryd.underlying22 (hval 1 22 v1 rfl rfl) h1
  have b1 := bounds_u64 w1
  obtain ⟨a2, rfl, rfl, rfl, w2⟩ := open_int Tryd.underlying22 (hval 2 22 v2 rfl rfl) h2
  have b2 := bounds_u64 w2
  clear hA0 hV0 hval0
  refine (lawRem a0 a1 a2 (by omega) (by omega) (by omega) (by omega) (by omega) (by omega) (fm_of_laid hL)).mono fun e W' ⟨he, hgb⟩ => ?_
  subst he
  exact ⟨_, rfl, _, _, _, [], _, _, hW', (trodAll_cons_mk (shut_bool Tryd.underlying4 _) trodAll_mk0), (trodAll_cons_mk (shut_int Tryd.underlying3 w0) (trodAll_cons_mk (shut_int Tryd.underlying22 w1) (trodAll_cons_mk (shut_int Tryd.underlying22 w2) trodAll_mk0))), vars_again enc hgb (cells_of_laid hL) _, Below.frame hgb _, fun h => by cases h⟩

theorem over : Rows.fnExactRemRow.holds Tryd.pinned (OpenSpec.ofChange Rows.fnExactRemSpec) :=
  OpenClaim.holds_of_wide 3 Tryd.f3 rfl rfl rfl rfl rfl rfl rfl ⟨rfl, rfl, rfl, rfl, rfl⟩ rfl rfl rfl rfl rfl (by kernel_rfl) Tryd.func3 (by kernel_rfl)
    (of_decide_eq_true (by kernel_rfl)) (by unfold Func.isWrapper; first | (rw [if_pos (by decide +kernel)]; kernel_rfl) | (rw [if_neg (by decide +kernel)]; exact ⟨rfl, rfl⟩))
    (fun os started H enc _ => lifted os started H enc)
end Go.Proofs.YtkflpogmhailhaaDoor.fnExactRem

namespace Go.Proofs.YtkflpogmhailhaaDoor
open Go
theorem FnExactRem_holds : Rows.FnExactRemCardSaid :=
  Claim7.holds_tied_plain_at .later [] [.wider] true (true, "f83463467a9df9129816ea69d4fd5830351d9ea75e4159d1cc649dcb8965e2ba") false
    fnExactRem.over (fun _ h => by cases h) (by kernel_rfl) (fun _ h => by cases h) fnExactRem_row_tie rfl ⟨rfl, rfl⟩ (by kernel_rfl) rfl
    (fun f fn hf hfn => by
      obtain rfl : f = 3 := Option.some.inj ((show Tryd.prog.funcNamed "loop.example/s01330/laws.FnExactRem" = some 3 by kernel_rfl).symm.trans hf) |>.symm
      obtain rfl : fn = Tryd.f3 := (Option.some.inj (Tryd.func3.symm.trans hfn)).symm
      exact ⟨by kernel_rfl, fun j t ht => by
        rw [Tryd.params3] at ht
        have hm : t ∈ [3, 22, 22] := by simpa using Array.mem_of_getElem? ht
        have hall : ([3, 22, 22].all fun u => !Tryd.prog.wantsStandIn u) = true := by kernel_rfl
        exact (show Tryd.prog.wantsStandIn t = false by simpa using List.all_eq_true.1 hall t hm)⟩)
    (by kernel_rfl)
#print axioms FnExactRem_holds
end Go.Proofs.YtkflpogmhailhaaDoor
